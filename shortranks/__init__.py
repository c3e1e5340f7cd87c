"""Shortranks: ranks told from a few kept values."""
