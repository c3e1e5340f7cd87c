"""Two summaries: whether all rows that leave one leave the other, too."""

from shortranks.rows import filled, leaves, row_for, surely_short
from shortranks.summaries import check_summary


def within(one, other):
    """Tell whether each row that leaves the summary one leaves the summary other, too."""
    return lacking_row(one, other) is None


def lacking_row(one, other):
    """Give an ascending row that leaves one, and not other; None if there is none."""
    check_summary(one)
    check_summary(other)
    tight = surely_short(one)
    for row in _telling_rows(tight, other):
        if not leaves(row, other):
            return row
    return None


def _telling_rows(tight, other):
    # A row does not leave other if the entries of some value have no places among the numbers
    # equal to it; fewer such numbers, at some of the same ranks, give them none either. So it is
    # enough to look, for each value and each rank at which its numbers can begin, at a row that
    # leaves one and has the value at as few ranks from there on as can be.
    rows = [row_for(tight)]
    for value in sorted({kept for kept, _, _ in other.entries}):
        for start in range(1, tight.many + 1):
            ranks = _first_ranks(tight, value, start)
            if ranks is not None:
                rows.append(_row_with_few(tight, ranks, value, start))
    return rows


def _first_ranks(tight, value, start):
    # The least ranks that the entries can have together if those that are not less than the
    # value are not before start; None if there are none.
    ranks = []
    rank = 0
    for kept, low, high in tight.entries:
        rank = max(low, rank + 1)
        if kept >= value:
            rank = max(rank, start)
        if rank > high:
            return None
        ranks.append(rank)
    return ranks


def _row_with_few(tight, ranks, value, start):
    kept = [entry[0] for entry in tight.entries]
    numbers = dict(zip(ranks, kept))
    behind = max([start] + [rank + 1 for rank, number in numbers.items() if number <= value])
    # Without a greater number here, the value would be repeated up to the next entry.
    numbers.setdefault(behind, value + 1)
    return filled(tight.many, numbers, min([value - 1] + kept))
