"""A keeper: it sees numbers one by one, and leaves entries out by a rule."""

from shortranks.asking import best_index, check_rank
from shortranks.changing import entries_with
from shortranks.checks import is_between
from shortranks.errors import BadParts, Full, TooLong
from shortranks.summaries import check_value

LEAST_PARTS = 2
MOST_PARTS = 20
MOST_KEPT = 40
MOST_SEEN = 200


class Keeper:
    """What is kept of the numbers that were seen; the more parts, the less is left out."""

    def __init__(self, parts):
        if not is_between(parts, LEAST_PARTS, MOST_PARTS):
            raise BadParts()
        self._parts = parts
        # The entries after each number, and none before the first one, so that undo can go back.
        self._stages = [()]

    @property
    def many(self):
        """How many numbers were seen."""
        return len(self._stages) - 1

    @property
    def entries(self):
        """The entries, a tuple."""
        return self._stages[-1]

    def see(self, value):
        """See a number; give the number of entries then."""
        check_value(value)
        many = self.many + 1
        entries = _thinned(entries_with(self.many, self.entries, value), 2 * many // self._parts)
        if len(entries) > MOST_KEPT:
            raise Full()
        if many > MOST_SEEN:
            raise TooLong()
        self._stages.append(entries)
        return len(entries)

    def answer(self, rank):
        """Give the value of the first entry whose error for a rank is least."""
        check_rank(self.many, rank)
        return self.entries[best_index(self.entries, rank)][0]

    def undo(self):
        """Take the last number back; tell whether there was one."""
        if self.many == 0:
            return False
        self._stages.pop()
        return True

    def copy(self):
        """Give an independent keeper that stands as this one."""
        twin = Keeper(self._parts)
        twin._stages = list(self._stages)
        return twin

    def __len__(self):
        return len(self._stages[-1])


def _thinned(entries, spread):
    kept = list(entries)
    index = _first_to_leave_out(kept, spread)
    while index is not None:
        del kept[index]
        index = _first_to_leave_out(kept, spread)
    return tuple(kept)


def _first_to_leave_out(entries, spread):
    for index in range(1, len(entries) - 1):
        if entries[index + 1][2] - entries[index - 1][1] <= spread:
            return index
    return None
