"""What integers are, here."""


def is_integer(value):
    """Tell whether a value is an integer; True and False are none."""
    return isinstance(value, int) and not isinstance(value, bool)


def is_between(value, least, greatest):
    """Tell whether a value is an integer from least to greatest, both ends included."""
    return is_integer(value) and least <= value <= greatest
