"""Point 1: what holds for every call."""

import copy
import unittest

from shortranks.asking import answer, below, error_at, up_to, values_at, worst
from shortranks.errors import BadCount, BadEntries, BadRank, BadValue, RankError
from shortranks.summaries import Summary, tightened
from tests.any_values import HUGE, any_values, error_class, error_of

CALLS = (
    (tightened, ()), (worst, ()), (values_at, (2,)), (below, (6,)), (up_to, (5,)), (answer, (5,)), (error_at, (5,)),
)
BAD_CALLS = (
    (values_at, (0,)), (below, (None,)), (up_to, ("6",)), (answer, (11,)), (error_at, (True,)),
)
ENTRIES = ((5, 1, 4), (5, 1, 4), (9, 3, 10))


def plain(value):
    """A value as builtin ones, for objects have no equality of their own or one that is under test."""
    if isinstance(value, Summary):
        return ("Summary", value.many, value.entries)
    if isinstance(value, RankError):
        return (type(value).__name__, tuple(vars(value).items()))
    if isinstance(value, (list, tuple)):
        return [type(value).__name__] + [plain(item) for item in value]
    if isinstance(value, dict):
        return {key: plain(item) for key, item in value.items()}
    return (type(value).__name__, value)


class NothingIsChanged(unittest.TestCase):

    def test_a_summary_stays(self):
        for function, rest in CALLS + BAD_CALLS:
            with self.subTest(function=function, rest=rest):
                summary = Summary(10, ENTRIES)
                error_of(function, summary, *rest)
                self.assertEqual((summary.many, summary.entries), (10, ENTRIES))

    def test_wrong_values_stay(self):
        for value, same in zip(any_values(), any_values()):
            with self.subTest(value=value):
                error_of(Summary, value, ())
                error_of(Summary, 7, value)
                error_of(Summary, 7, (value,))
                error_of(Summary, 7, ((value, 1, 1), (1, value, 1)))
                for function, rest in CALLS:
                    error_of(function, value, *rest)
                for function in (values_at, below, up_to, answer, error_at):
                    error_of(function, Summary(10, ENTRIES), value)
                self.assertEqual(plain(value), plain(same))

    def test_a_list_cannot_change_a_summary_later(self):
        self.assertIs(error_class(Summary, 3, [(5, 1, 2)]), BadEntries)
        self.assertIs(error_class(Summary, 3, ([5, 1, 2],)), BadEntries)

    def test_an_error_leaves_later_calls_as_they_were(self):
        summary = Summary(10, ENTRIES)
        before = [plain(function(summary, *rest)) for function, rest in CALLS]
        for function, rest in BAD_CALLS:
            self.assertIsNotNone(error_of(function, summary, *rest))
        self.assertEqual([plain(function(summary, *rest)) for function, rest in CALLS], before)


class EqualCalls(unittest.TestCase):

    def test_equal_results(self):
        for function, rest in CALLS:
            with self.subTest(function=function, rest=rest):
                summary = Summary(10, ENTRIES)
                results = [plain(function(each, *rest)) for each in (summary, summary, copy.deepcopy(summary))]
                self.assertEqual(results[0], results[1])
                self.assertEqual(results[0], results[2])

    def test_equal_errors(self):
        for function, rest in BAD_CALLS:
            summary = Summary(10, ENTRIES)
            self.assertIs(error_class(function, summary, *rest), error_class(function, summary, *rest))


class Integers(unittest.TestCase):

    def test_true_and_false_are_none(self):
        summary = Summary(10, ENTRIES)
        for value in (True, False):
            self.assertIs(error_class(Summary, value, ()), BadCount)
            for entry in ((value, 1, 1), (1, value, 1), (1, 1, value)):
                error = error_of(Summary, 3, (entry,))
                self.assertEqual((type(error), error.index), (BadEntries, 0))
            for function in (values_at, answer, error_at):
                self.assertIs(error_class(function, summary, value), BadRank)
            for function in (below, up_to):
                self.assertIs(error_class(function, summary, value), BadValue)

    def test_kinds_of_results(self):
        summary = Summary(10, ENTRIES)
        self.assertIs(type(tightened(summary)), Summary)
        for pair in (values_at(summary, 3), below(summary, 5), up_to(summary, 5), worst(summary)):
            self.assertEqual((type(pair), [type(item) for item in pair]), (tuple, [int, int]))
        for number in (answer(summary, 1), error_at(summary, 1), summary.many, len(summary)):
            self.assertIs(type(number), int)


class CountedFrom(unittest.TestCase):

    def test_indexes_from_zero_ranks_from_one(self):
        summary = Summary(3, ((5, 1, 1), (6, 2, 2), (7, 3, 3)))
        self.assertEqual([answer(summary, rank) for rank in (1, 2, 3)], [0, 1, 2])
        self.assertEqual([values_at(summary, rank) for rank in (1, 2, 3)], [(5, 5), (6, 6), (7, 7)])
        self.assertEqual(worst(summary), (0, 1))
        self.assertEqual(error_of(Summary, 3, (None,)).index, 0)
        self.assertIs(error_class(answer, summary, 0), BadRank)


class FromLeftToRight(unittest.TestCase):

    def test_the_first_error(self):
        self.assertIs(error_class(Summary, None, None), BadCount)
        self.assertEqual(error_of(Summary, 3, ((1, 1, 4), None, (0, 1, 1))).index, 0)
        self.assertEqual(error_of(Summary, HUGE, ((2, 1, 4), (1, 1, 1), None)).index, 1)


if __name__ == "__main__":
    unittest.main()
