"""Rows of numbers: whether one leaves a summary, one that does, and the summary of one."""

from shortranks.checks import is_between, is_integer
from shortranks.errors import BadRanks, BadRow, TooLong
from shortranks.summaries import MOST_ENTRIES, Summary, check_summary, is_value, surely_tightened

MOST_NUMBERS = 40


def leaves(row, summary):
    """Tell whether a row, in any order, leaves a summary."""
    _check_row(row)
    check_summary(summary)
    return len(row) == summary.many and _have_places(summary.entries, sorted(row))


def row_for(summary):
    """Give an ascending row that leaves a summary."""
    tight = surely_short(summary)
    first = min([value for value, _, _ in tight.entries], default=0)
    return filled(tight.many, {low: value for value, low, _ in tight.entries}, first)


def kept_from(row, ranks):
    """Give the summary of a row with an entry for each told rank."""
    _check_row(row)
    if not all([is_value(number) for number in row]):
        raise BadRow()
    _check_ranks(len(row), ranks)
    ascending = sorted(row)
    return Summary(len(row), tuple([(ascending[rank - 1], rank, rank) for rank in ranks]))


def surely_short(summary):
    """Give the tightened summary, for what makes rows that leave it."""
    tight = surely_tightened(summary)
    check_short(tight)
    return tight


def check_short(summary):
    """Raise TooLong for a summary whose rows are too long to be looked at."""
    if summary.many > MOST_NUMBERS:
        raise TooLong()


def filled(many, numbers, first):
    """Give a row with the numbers told by their ranks, each one again up to the next; first before all."""
    row = []
    number = first
    for rank in range(1, many + 1):
        number = numbers.get(rank, number)
        row.append(number)
    return tuple(row)


def _check_row(row):
    if not isinstance(row, tuple) or not is_between(len(row), 1, MOST_NUMBERS):
        raise BadRow()
    if not all([is_integer(number) for number in row]):
        raise BadRow()


def _check_ranks(many, ranks):
    if not isinstance(ranks, tuple) or len(ranks) > MOST_ENTRIES:
        raise BadRanks()
    before = 0
    for rank in ranks:
        if not is_between(rank, before + 1, many):
            raise BadRanks()
        before = rank


def _have_places(entries, ascending):
    # The first place that an entry can take leaves the most places for the entries behind it.
    rank = 0
    for value, low, high in entries:
        rank = max(low, rank + 1)
        while rank <= high and ascending[rank - 1] != value:
            rank += 1
        if rank > high:
            return False
    return True
