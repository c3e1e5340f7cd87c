"""Small summaries, and all rows of small numbers that leave them, found as point 3 tells.

Nothing of the package is used here but the class Summary: each row and each choice of ranks
is looked at.
"""

from itertools import combinations, combinations_with_replacement, product

from shortranks.summaries import Summary

# Between, before and behind the kept values are numbers that are not kept.
KEPT = (2, 4, 5)
NUMBERS = (1, 2, 3, 4, 5, 6)


def small_summaries(many, length):
    """All summaries of a count with that many entries, their values from KEPT."""
    spans = [(low, high) for low in range(1, many + 1) for high in range(low, many + 1)]
    for values in combinations_with_replacement(KEPT, length):
        for chosen in product(spans, repeat=length):
            entries = tuple((value, low, high) for value, (low, high) in zip(values, chosen))
            yield Summary(many, entries)


def all_small_summaries():
    """All of the counts up to 5 with as many entries as there is time to look at."""
    for many, longest in ((1, 2), (2, 3), (3, 3), (4, 3), (5, 2)):
        for length in range(longest + 1):
            yield from small_summaries(many, length)


def all_rows(many):
    """All ascending rows of so many numbers from NUMBERS."""
    return list(combinations_with_replacement(NUMBERS, many))


def places(row, entries):
    """All tuples of ranks by which an ascending row leaves a summary with these entries."""
    found = []
    for ranks in combinations(range(1, len(row) + 1), len(entries)):
        if all(low <= rank <= high and row[rank - 1] == value
               for rank, (value, low, high) in zip(ranks, entries)):
            found.append(ranks)
    return found


def has_places(row, entries):
    """Whether there is such a tuple of ranks; for rows too long to look at all tuples."""
    reached = {0}
    for value, low, high in entries:
        reached = {rank for rank in range(low, high + 1)
                   if row[rank - 1] == value and any(before < rank for before in reached)}
    return bool(reached)


def leaving(summary, rows):
    """The rows, of those passed, that leave a summary, each with its tuples of ranks."""
    found = []
    for row in rows:
        ranks = places(row, summary.entries)
        if ranks:
            found.append((row, ranks))
    return found
