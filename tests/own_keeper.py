"""A keeper of the tests' own, that follows point 9 step by step; it is put up anew from the numbers each time."""


def put_in(many, entries, value):
    """The entries, lists [value, low, high], with one for a number more; many is the count before."""
    place = 0
    while place < len(entries) and entries[place][0] <= value:
        place += 1
    low = 1 if place == 0 else entries[place - 1][1] + 1
    high = many + 1 if place == len(entries) else entries[place][2]
    for entry in entries[place:]:
        entry[1] += 1
        entry[2] += 1
    entries.insert(place, [value, low, high])


def leave_out(most, entries):
    """Leave out the first inner entry that may be, until there is none."""
    for place in range(1, len(entries) - 1):
        if entries[place + 1][2] - entries[place - 1][1] <= most:
            del entries[place]
            leave_out(most, entries)
            return


def entries_after(numbers, parts):
    """The entries when these numbers were seen, as a tuple, without a greatest number of either."""
    entries = []
    for many, number in enumerate(numbers):
        put_in(many, entries, number)
        leave_out(2 * (many + 1) // parts, entries)
    return tuple(tuple(entry) for entry in entries)


def answer(entries, rank):
    """The value of the first entry with the least error, and this error."""
    best = None
    for value, low, high in entries:
        error = max(abs(rank - low), abs(rank - high))
        if best is None or error < best[1]:
            best = (value, error)
    return best
