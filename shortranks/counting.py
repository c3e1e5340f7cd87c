"""How many rows, with numbers from a range, leave a summary."""

from math import comb

from shortranks.checks import is_between
from shortranks.rows import check_short
from shortranks.summaries import check_value, surely_tightened


def count_rows(summary, least, greatest):
    """Give the number of the ascending rows of numbers from least to greatest that leave a summary."""
    tight = surely_tightened(summary)
    check_value(least)
    check_value(greatest)
    check_short(tight)
    values = sorted({value for value, _, _ in tight.entries})
    if not all([is_between(value, least, greatest) for value in values]):
        return 0
    # At the index k stands in how many ways a row can begin with k numbers, all of them less than
    # following.
    ways = [1] + [0] * tight.many
    following = least
    for value in values:
        ways = _with_others(ways, value - following)
        ways = _with_kept(ways, [(low, high) for kept, low, high in tight.entries if kept == value])
        following = value + 1
    return _with_others(ways, greatest + 1 - following)[tight.many]


def _with_others(ways, size):
    # Behind each beginning may stand any of the size numbers up to the next kept one.
    return [sum([ways[start] * _choices(size, end - start) for start in range(end + 1)])
            for end in range(len(ways))]


def _choices(size, many):
    # How many ascending rows of so many numbers there are, equal ones too, from size different ones.
    if many == 0:
        return 1
    return comb(size + many - 1, many) if size > 0 else 0


def _with_kept(ways, spans):
    # Behind each beginning stands one number again and again, until all its entries have places.
    longer = [0] * len(ways)
    for start, several in enumerate(ways):
        last = _last_place(spans, start)
        if last is not None:
            for end in range(last, len(ways)):
                longer[end] += several
    return longer


def _last_place(spans, start):
    # The least rank that the last entry can have if all have places behind start; None if they have none.
    rank = start
    for low, high in spans:
        rank = max(low, rank + 1)
        if rank > high:
            return None
    return rank
