"""Rows that leave a summary and have told numbers at told ranks."""

from shortranks.checks import is_between
from shortranks.errors import BadTold
from shortranks.rows import check_short, filled
from shortranks.summaries import GREATEST_VALUE, Summary, check_value, is_value, surely_tightened, tightened

MOST_TOLD = 12


def row_with(summary, told):
    """Give an ascending row that leaves a summary and has the told numbers; None if there is none."""
    tight = surely_tightened(summary)
    _check_told(tight.many, told)
    check_short(tight)
    narrow = _narrowed(tight, told)
    if narrow is None:
        return None
    # Where a told rank is the low of an entry, both have the same number.
    numbers = {low: value for value, low, _ in narrow.entries}
    numbers.update(dict(told))
    return filled(tight.many, numbers, min(numbers.values(), default=0))


def can_have(summary, told, value):
    """Give the ranks at which a row that row_with could give can have a value."""
    tight = surely_tightened(summary)
    _check_told(tight.many, told)
    check_value(value)
    check_short(tight)
    ranks = [rank for rank in range(1, tight.many + 1) if _can_stand(told, rank, value)]
    return [rank for rank in ranks if _narrowed(tight, told + ((rank, value),)) is not None]


def _check_told(many, told):
    if not isinstance(told, tuple) or len(told) > MOST_TOLD:
        raise BadTold(None)
    before = (0, -GREATEST_VALUE)
    for index, thing in enumerate(told):
        if not _is_told(many, thing) or thing[0] <= before[0] or thing[1] < before[1]:
            raise BadTold(index)
        before = thing


def _is_told(many, thing):
    return isinstance(thing, tuple) and len(thing) == 2 and is_between(thing[0], 1, many) and is_value(thing[1])


def _narrowed(tight, told):
    # A number of an entry stands behind the told ones that are less, and before those that are
    # greater. This is all that is asked of it: what ascends at some ranks can be filled to a row.
    entries = []
    for value, low, high in tight.entries:
        least = max([low] + [rank + 1 for rank, number in told if number < value])
        greatest = min([high] + [rank - 1 for rank, number in told if number > value])
        if least > greatest:
            return None
        entries.append((value, least, greatest))
    return tightened(Summary(tight.many, tuple(entries)))


def _can_stand(told, rank, value):
    lesser = [at for at, number in told if number < value]
    greater = [at for at, number in told if number > value]
    return max(lesser, default=0) < rank < min(greater, default=rank + 1)
