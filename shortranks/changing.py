"""Summaries made of others: entries left out, numbers put in, two put together."""

from itertools import combinations

from shortranks.asking import below, up_to
from shortranks.checks import is_between, is_integer
from shortranks.errors import BadError, BadIndex, Full
from shortranks.summaries import MOST_ENTRIES, Summary, check_summary, check_value, surely_tightened


def without(summary, index):
    """Give the summary without one entry."""
    check_summary(summary)
    if not is_between(index, 0, len(summary) - 1):
        raise BadIndex()
    entries = summary.entries
    return Summary(summary.many, entries[:index] + entries[index + 1:])


def fewest(summary, error):
    """Give the indexes of the fewest entries that keep the worst error; None if all do not keep it."""
    tight = surely_tightened(summary)
    if not is_integer(error) or error < 0:
        raise BadError()
    # Of each size the tuples come in ascending order, so the first one that is found is the least.
    for size in range(1, len(tight) + 1):
        for indexes in combinations(range(len(tight)), size):
            if _keeps(tight, indexes, error):
                return indexes
    return None


def put_in(summary, value):
    """Give the summary of the rows with one number more."""
    tight = surely_tightened(summary)
    check_value(value)
    _check_room(len(tight) + 1)
    # A count that would be too great is refused by Summary itself, here and in joined.
    return Summary(tight.many + 1, entries_with(tight.many, tight.entries, value))


def joined(one, other):
    """Give the summary of the rows of two summaries together."""
    check_summary(one)
    check_summary(other)
    first = surely_tightened(one)
    second = surely_tightened(other)
    _check_room(len(first) + len(second))
    # Equal numbers of one count as those before the other's: sorted leaves them in this order.
    entries = [_raised(entry, below(second, entry[0])) for entry in first.entries]
    entries.extend([_raised(entry, up_to(first, entry[0])) for entry in second.entries])
    return Summary(first.many + second.many, tuple(sorted(entries, key=lambda entry: entry[0])))


def entries_with(many, entries, value):
    """Give the entries of so many numbers with one for a further number."""
    before = [entry for entry in entries if entry[0] <= value]
    behind = [entry for entry in entries if entry[0] > value]
    low = before[-1][1] + 1 if before else 1
    high = behind[0][2] if behind else many + 1
    return tuple(before + [(value, low, high)] + [_raised(entry, (1, 1)) for entry in behind])


def _keeps(tight, indexes, error):
    # An entry's error is low enough for the ranks from high - error to low + error. As lows and
    # highs ascend, a rank that one entry leaves behind is reached by none of those after it.
    reached = 0
    for index in indexes:
        _, low, high = tight.entries[index]
        if high - error > reached + 1:
            return False
        reached = max(reached, low + error)
    return reached >= tight.many


def _check_room(length):
    if length > MOST_ENTRIES:
        raise Full()


def _raised(entry, ranks):
    value, low, high = entry
    return value, low + ranks[0], high + ranks[1]
