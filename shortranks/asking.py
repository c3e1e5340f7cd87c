"""What the rows that leave a summary tell about ranks and values."""

from shortranks.checks import is_between, is_integer
from shortranks.errors import BadRank, BadValue, NoEntry
from shortranks.summaries import surely_tightened


def values_at(summary, rank):
    """Give the least and the greatest value at a rank, None for one that has no bound."""
    tight = surely_tightened(summary)
    check_rank(tight.many, rank)
    least = max([value for value, _, high in tight.entries if high <= rank], default=None)
    greatest = min([value for value, low, _ in tight.entries if low >= rank], default=None)
    return least, greatest


def below(summary, value):
    """Give the least and the greatest number of numbers that are less than a value."""
    tight = surely_tightened(summary)
    _check_value(value)
    return _many_below(tight, value)


def up_to(summary, value):
    """Give the least and the greatest number of numbers that are at most a value."""
    tight = surely_tightened(summary)
    _check_value(value)
    return _many_below(tight, value + 1)


def answer(summary, rank):
    """Give the index of the first entry whose error for a rank is least."""
    tight = _with_entries(summary)
    check_rank(tight.many, rank)
    return best_index(tight.entries, rank)


def error_at(summary, rank):
    """Give the least error that an entry has for a rank."""
    tight = _with_entries(summary)
    check_rank(tight.many, rank)
    return min(_errors(tight.entries, rank))


def worst(summary):
    """Give the greatest error_at of all ranks, and the least rank that has it."""
    tight = _with_entries(summary)
    ranks = _peaks(tight)
    errors = [min(_errors(tight.entries, rank)) for rank in ranks]
    greatest = max(errors)
    return greatest, min([rank for rank, error in zip(ranks, errors) if error == greatest])


def check_rank(many, rank):
    """Raise BadRank for what is no rank of so many numbers."""
    if not is_between(rank, 1, many):
        raise BadRank()


def best_index(entries, rank):
    """Give the index of the first of some entries whose error for a rank is least."""
    errors = _errors(entries, rank)
    return errors.index(min(errors))


def _check_value(value):
    if not is_integer(value):
        raise BadValue()


def _with_entries(summary):
    tight = surely_tightened(summary)
    if len(tight) == 0:
        raise NoEntry()
    return tight


def _many_below(tight, value):
    least = max([low for kept, low, _ in tight.entries if kept < value], default=0)
    greatest = min([high - 1 for kept, _, high in tight.entries if kept >= value], default=tight.many)
    return least, greatest


def _errors(entries, rank):
    return [max(abs(rank - low), abs(rank - high)) for _, low, high in entries]


def _peaks(tight):
    # There may be 10 ** 30 ranks, too many to look at. An entry's error is the greater one of
    # high - rank, which falls by one a rank, and rank - low, which rises by one. The least error
    # of all is therefore greatest first at an end, or where the rise behind one low meets the
    # fall towards another high: halfway between them, rounded down.
    lows = [low for _, low, _ in tight.entries]
    highs = [high for _, _, high in tight.entries]
    halfway = [(low + high) // 2 for low in lows for high in highs]
    return [1, tight.many] + halfway
