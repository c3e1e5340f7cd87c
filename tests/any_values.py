"""Values of every kind that a caller may pass, and a look at the error that they bring."""

from shortranks.errors import BadCount, BadEntries, InvalidText, RankError
from shortranks.keepers import Keeper
from shortranks.summaries import Summary

HUGE = 10 ** 30


def any_values():
    """Fresh values of each kind, so that no test sees what another one changed."""
    return [
        0, 1, 2, 3, -1, HUGE, HUGE + 1, -HUGE, -HUGE - 1, 10 ** 60, -(10 ** 60),
        True, False, None, "", "1", "count 3", "None",
        (), (1,), (1, 2), (1, 1, 1), ((1, 1, 1),), (None,), (True,), ((), ()), ("a", [1], {}),
        [], [1], [1, 1, 1], [(1, 1, 1)], [[]],
        {}, {1: 2}, {"many": 3, "entries": ()}, {(1, 1): [None]},
        Summary(3, ()), Summary(3, ((5, 1, 2),)), (Summary(3, ()),), [Summary(3, ())], {"a": Summary(3, ())},
        RankError(), BadCount(), BadEntries(None), (BadCount(),), InvalidText(1, 2),
        Keeper(2), keeper_of(5, 3, 8), (Keeper(20),), [keeper_of(5)], {"a": (Keeper(3), [None])},
    ]


def keeper_of(*numbers, parts=4):
    """A keeper that saw some numbers."""
    keeper = Keeper(parts)
    for number in numbers:
        keeper.see(number)
    return keeper


def is_integer(value):
    return type(value) is int


def is_summary(value):
    return isinstance(value, Summary)


def others(keep_out):
    """All the values for which keep_out does not hold."""
    return [value for value in any_values() if not keep_out(value)]


def error_of(function, *arguments):
    """The error that a call raises, None if it raises none."""
    try:
        function(*arguments)
    except RankError as error:
        return error
    return None


def error_class(function, *arguments):
    """The class of the error that a call raises, None if it raises none."""
    error = error_of(function, *arguments)
    return None if error is None else type(error)
