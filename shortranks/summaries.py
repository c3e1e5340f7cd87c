"""Summaries: how many numbers went by, and a few of them with the ranks that they can have."""

from shortranks.checks import is_between
from shortranks.errors import BadCount, BadEntries, BadSummary, BadValue, NoRow

GREATEST_COUNT = 10 ** 30
GREATEST_VALUE = 10 ** 30
MOST_ENTRIES = 12


class Summary:
    """The count of a row of numbers, and its entries: tuples (value, low, high)."""

    def __init__(self, many, entries):
        if not is_between(many, 1, GREATEST_COUNT):
            raise BadCount()
        _check_entries(many, entries)
        self._many = many
        self._entries = entries

    @property
    def many(self):
        """How many numbers went by."""
        return self._many

    @property
    def entries(self):
        """The entries, a tuple."""
        return self._entries

    def __len__(self):
        return len(self._entries)

    def __eq__(self, other):
        return isinstance(other, Summary) and self._many == other._many and self._entries == other._entries


def tightened(summary):
    """Give the summary with the least and greatest ranks that rows have; None if no row leaves it."""
    check_summary(summary)
    lows = _least_ranks(summary)
    highs = _greatest_ranks(summary)
    entries = []
    for entry, low, high in zip(summary.entries, lows, highs):
        if low > high:
            return None
        entries.append((entry[0], low, high))
    return Summary(summary.many, tuple(entries))


def check_summary(summary):
    """Raise BadSummary for what is no summary."""
    if not isinstance(summary, Summary):
        raise BadSummary()


def is_value(thing):
    """Tell whether a thing is an integer that an entry can have as its value."""
    return is_between(thing, -GREATEST_VALUE, GREATEST_VALUE)


def check_value(thing):
    """Raise BadValue for what no entry can have as its value."""
    if not is_value(thing):
        raise BadValue()


def surely_tightened(summary):
    """Give the tightened summary, for what is asked about the rows that leave it."""
    tight = tightened(summary)
    if tight is None:
        raise NoRow()
    return tight


def _check_entries(many, entries):
    if not isinstance(entries, tuple) or len(entries) > MOST_ENTRIES:
        raise BadEntries(None)
    before = -GREATEST_VALUE
    for index, thing in enumerate(entries):
        if not _is_entry(many, thing) or thing[0] < before:
            raise BadEntries(index)
        before = thing[0]


def _is_entry(many, thing):
    if not isinstance(thing, tuple) or len(thing) != 3:
        return False
    value, low, high = thing
    return is_value(value) and is_between(low, 1, many) and is_between(high, low, many)


def _least_ranks(summary):
    # As ranks are different, each low pushes up the lows behind it.
    ranks = []
    rank = 0
    for entry in summary.entries:
        rank = max(entry[1], rank + 1)
        ranks.append(rank)
    return ranks


def _greatest_ranks(summary):
    # As ranks are different, each high pushes down the highs before it.
    ranks = []
    rank = summary.many + 1
    for entry in reversed(summary.entries):
        rank = min(entry[2], rank - 1)
        ranks.append(rank)
    return ranks[::-1]
