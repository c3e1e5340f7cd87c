"""Point 1: what holds for every call."""

import copy
import unittest

from shortranks.asking import answer, below, error_at, up_to, values_at, worst
from shortranks.changing import fewest, joined, put_in, without
from shortranks.counting import count_rows
from shortranks.errors import (BadCount, BadEntries, BadError, BadIndex, BadParts, BadRank, BadRanks, BadRow,
                               BadSummary, BadTold, BadValue, InvalidText, NoRow, RankError, TooLong)
from shortranks.fixed import can_have, row_with
from shortranks.keepers import Keeper
from shortranks.pairs import lacking_row, within
from shortranks.rows import kept_from, leaves, row_for
from shortranks.summaries import Summary, tightened
from shortranks.texts import read_summary, write_summary
from tests.any_values import HUGE, any_values, error_class, error_of, keeper_of

ENTRIES = ((5, 1, 4), (5, 1, 4), (9, 3, 10))
ROW = (9, 5, 6, 5, 7, 11, 12, 13, 14, 15)


def left_by(summary, row):
    return leaves(row, summary)


# Functions that take a summary first, and what else they are passed.
CALLS = (
    (tightened, ()), (worst, ()), (values_at, (2,)), (below, (6,)), (up_to, (5,)), (answer, (5,)), (error_at, (5,)),
    (without, (1,)), (fewest, (7,)), (fewest, (6,)), (put_in, (7,)), (joined, (Summary(4, ((6, 2, 4), (8, 2, 4))),)),
    (left_by, (ROW,)), (left_by, (ROW[1:],)), (row_for, ()), (within, (Summary(10, ((5, 1, 4),)),)),
    (within, (Summary(10, ((9, 5, 9),)),)), (lacking_row, (Summary(10, ((5, 1, 4),)),)),
    (lacking_row, (Summary(10, ((9, 5, 9),)),)), (count_rows, (3, 12)), (count_rows, (12, 3)), (write_summary, ()),
    (row_with, (((2, 4), (5, 9)),)), (row_with, (((5, 4),),)), (can_have, (((2, 4), (5, 9)), 5)), (can_have, ((), 9)),
)
BAD_CALLS = (
    (values_at, (0,)), (below, (None,)), (up_to, ("6",)), (answer, (11,)), (error_at, (True,)), (without, (3,)),
    (fewest, (-1,)), (put_in, (None,)), (joined, (Summary(2, ((1, 1, 1), (2, 1, 1))),)), (joined, (None,)),
    (left_by, ((),)), (within, ((),)), (lacking_row, (3,)), (count_rows, (None, 3)), (count_rows, (3, HUGE + 1)),
    (row_with, (None,)), (row_with, (((2, 4), (2, 4)),)), (can_have, ([], 3)), (can_have, (((2, 4),), "3")),
)
TEXTS = ("count 10\n5 1 4\n5 1 4\n9 3 10", " count   1 ", "count 3\n5 1", "", "count 3\n\n")


def plain(value):
    """A value as builtin ones, for objects have no equality of their own or one that is under test."""
    if isinstance(value, Summary):
        return ("Summary", value.many, value.entries)
    if isinstance(value, Keeper):
        return ("Keeper", value.many, value.entries, [value.answer(rank) for rank in range(1, value.many + 1)])
    if isinstance(value, RankError):
        return (type(value).__name__, tuple(vars(value).items()))
    if isinstance(value, (list, tuple)):
        return [type(value).__name__] + [plain(item) for item in value]
    if isinstance(value, dict):
        return {key: plain(item) for key, item in value.items()}
    return (type(value).__name__, value)


def with_others(rest, value):
    """The arguments with each one in turn replaced by a value."""
    return [rest[:place] + (value,) + rest[place + 1:] for place in range(len(rest))]


class NothingIsChanged(unittest.TestCase):

    def test_a_summary_stays(self):
        for function, rest in CALLS + BAD_CALLS:
            with self.subTest(function=function, rest=rest):
                summary = Summary(10, ENTRIES)
                error_of(function, summary, *rest)
                self.assertEqual((summary.many, summary.entries), (10, ENTRIES))

    def test_wrong_values_stay(self):
        for value, same in zip(any_values(), any_values()):
            with self.subTest(value=value):
                error_of(Summary, value, ())
                error_of(Summary, 7, value)
                error_of(Summary, 7, (value,))
                error_of(Summary, 7, ((value, 1, 1), (1, value, 1)))
                for function, rest in CALLS:
                    error_of(function, value, *rest)
                for function, rest in CALLS:
                    for passed in with_others(rest, value):
                        error_of(function, Summary(10, ENTRIES), *passed)
                error_of(row_with, Summary(10, ENTRIES), (value, (2, value)))
                error_of(can_have, Summary(10, ENTRIES), ((2, value), value), 5)
                error_of(kept_from, value, (1,))
                error_of(kept_from, (5, 6), value)
                error_of(Keeper, value)
                for keeper in (Keeper(4), keeper_of(5, 3, 8)):
                    error_of(keeper.see, value)
                    error_of(keeper.answer, value)
                self.assertEqual(plain(value), plain(same))

    def test_two_summaries_stay(self):
        for function in (joined, within, lacking_row):
            for entries in (((6, 2, 4),), ((6, 1, 1), (7, 1, 1)), ((5, 1, 10),)):
                one, other = Summary(10, ENTRIES), Summary(10, entries)
                error_of(function, one, other)
                error_of(function, other, one)
                self.assertEqual((one.many, one.entries, other.many, other.entries), (10, ENTRIES, 10, entries))

    def test_a_list_cannot_change_a_summary_later(self):
        self.assertIs(error_class(Summary, 3, [(5, 1, 2)]), BadEntries)
        self.assertIs(error_class(Summary, 3, ([5, 1, 2],)), BadEntries)

    def test_an_error_leaves_later_calls_as_they_were(self):
        summary = Summary(10, ENTRIES)
        before = [plain(function(summary, *rest)) for function, rest in CALLS]
        for function, rest in BAD_CALLS:
            self.assertIsNotNone(error_of(function, summary, *rest))
        self.assertEqual([plain(function(summary, *rest)) for function, rest in CALLS], before)


class AKeeperThatRaises(unittest.TestCase):

    def test_it_stays(self):
        for numbers in ((), (5,), (5, 3, 8), tuple(range(200))):
            for value in any_values():
                keeper = keeper_of(*numbers)
                before = plain(keeper)
                for method in (keeper.see, keeper.answer):
                    error = error_of(method, value)
                    if error is None and method == keeper.see:
                        self.assertTrue(keeper.undo())
                    self.assertEqual(plain(keeper), before)
                self.assertEqual([keeper.undo() for _ in range(len(numbers) + 1)], [True] * len(numbers) + [False])


class EqualCalls(unittest.TestCase):

    def test_equal_results(self):
        for function, rest in CALLS:
            with self.subTest(function=function, rest=rest):
                summary = Summary(10, ENTRIES)
                results = [plain(function(each, *rest)) for each in (summary, summary, copy.deepcopy(summary))]
                results.append(plain(function(summary, *copy.deepcopy(rest))))
                for result in results[1:]:
                    self.assertEqual(results[0], result)

    def test_equal_summaries_of_a_row(self):
        self.assertEqual(plain(kept_from(ROW, (1, 4))), plain(kept_from(ROW, (1, 4))))
        self.assertEqual(plain(kept_from(ROW, (1, 4))), plain(kept_from(tuple(sorted(ROW)), (1, 4))))

    def test_lists_are_new_and_their_own(self):
        for told, value in (((), 5), ((), 9), (((2, 4), (5, 9)), 5), (((5, 4),), 4)):
            summary = Summary(10, ENTRIES)
            first = can_have(summary, told, value)
            kept = list(first)
            second = can_have(summary, told, value)
            self.assertIsNot(first, second)
            for change in (lambda ranks: ranks.append("x"), lambda ranks: ranks.insert(0, 0), list.clear):
                change(first)
                self.assertEqual(second, kept)
                self.assertEqual(can_have(summary, told, value), kept)
                self.assertEqual(can_have(Summary(10, ENTRIES), told, value), kept)

    def test_equal_texts(self):
        for text in TEXTS:
            with self.subTest(text=text):
                texts = (text, text, "".join(list(text)))
                results = [error_of(read_summary, each) or read_summary(each) for each in texts]
                for result in results[1:]:
                    self.assertEqual(plain(results[0]), plain(result))

    def test_equal_keepers(self):
        numbers = [place * 7 % 31 for place in range(60)]
        for parts in (2, 9, 20):
            one, other = Keeper(parts), Keeper(parts)
            for number in numbers:
                self.assertEqual(one.see(number), other.see(number))
                self.assertEqual(plain(one), plain(other))
                self.assertEqual(plain(one.copy()), plain(one))
                self.assertEqual((one.entries, one.many, len(one)), (one.entries, one.many, len(one)))

    def test_equal_errors(self):
        for function, rest in BAD_CALLS:
            summary = Summary(10, ENTRIES)
            self.assertIs(error_class(function, summary, *rest), error_class(function, summary, *rest))


class Integers(unittest.TestCase):

    def test_true_and_false_are_none(self):
        summary = Summary(10, ENTRIES)
        for value in (True, False):
            self.assertIs(error_class(Summary, value, ()), BadCount)
            for entry in ((value, 1, 1), (1, value, 1), (1, 1, value)):
                error = error_of(Summary, 3, (entry,))
                self.assertEqual((type(error), error.index), (BadEntries, 0))
            for function in (values_at, answer, error_at):
                self.assertIs(error_class(function, summary, value), BadRank)
            for function in (below, up_to, put_in):
                self.assertIs(error_class(function, summary, value), BadValue)
            self.assertIs(error_class(without, summary, value), BadIndex)
            self.assertIs(error_class(fewest, summary, value), BadError)
            self.assertIs(error_class(leaves, (3, value), summary), BadRow)
            self.assertIs(error_class(kept_from, (value, 3), (1,)), BadRow)
            self.assertIs(error_class(kept_from, (3, 4), (value,)), BadRanks)
            self.assertIs(error_class(count_rows, summary, value, 3), BadValue)
            self.assertIs(error_class(count_rows, summary, 3, value), BadValue)
            self.assertIs(error_class(can_have, summary, (), value), BadValue)
            for told in (((value, 5),), ((1, value),)):
                self.assertEqual(error_of(row_with, summary, told).index, 0)
                self.assertEqual(error_of(can_have, summary, told, 5).index, 0)
            self.assertIs(error_class(Keeper, value), BadParts)
            self.assertIs(error_class(Keeper(2).see, value), BadValue)
            self.assertIs(error_class(keeper_of(5, 3).answer, value), BadRank)

    def test_kinds_of_results(self):
        summary = Summary(10, ENTRIES)
        for made in (tightened(summary), without(summary, 0), put_in(summary, 7), joined(summary, summary),
                     kept_from(ROW, (2, 3)), read_summary(TEXTS[0])):
            self.assertEqual((type(made), type(made.many), type(made.entries)), (Summary, int, tuple))
            for entry in made.entries:
                self.assertEqual((type(entry), [type(item) for item in entry]), (tuple, [int, int, int]))
        for pair in (values_at(summary, 3), below(summary, 5), up_to(summary, 5), worst(summary)):
            self.assertEqual((type(pair), [type(item) for item in pair]), (tuple, [int, int]))
        for number in (answer(summary, 1), error_at(summary, 1), summary.many, len(summary), count_rows(summary, 3, 12),
                       count_rows(summary, 6, 12), count_rows(Summary(1, ()), 3, 2)):
            self.assertIs(type(number), int)
        far = Summary(10, ((9, 5, 9),))
        for several in (fewest(summary, 7), row_for(summary), lacking_row(summary, far), row_with(summary, ((2, 4),)),
                        row_with(Summary(3, ()), ())):
            self.assertEqual((type(several), {type(item) for item in several}), (tuple, {int}))
        for told in (leaves(ROW, summary), leaves(ROW[1:], summary), within(summary, far), within(summary, summary)):
            self.assertIs(type(told), bool)
        self.assertIs(type(write_summary(summary)), str)
        for ranks in (can_have(summary, (), 9), can_have(Summary(10, ENTRIES), ((2, 4),), 5)):
            self.assertEqual((type(ranks), {type(rank) for rank in ranks}), (list, {int}))


class CountedFrom(unittest.TestCase):

    def test_indexes_from_zero_ranks_from_one(self):
        summary = Summary(3, ((5, 1, 1), (6, 2, 2), (7, 3, 3)))
        self.assertEqual([answer(summary, rank) for rank in (1, 2, 3)], [0, 1, 2])
        self.assertEqual([values_at(summary, rank) for rank in (1, 2, 3)], [(5, 5), (6, 6), (7, 7)])
        self.assertEqual(worst(summary), (0, 1))
        self.assertEqual(error_of(Summary, 3, (None,)).index, 0)
        self.assertIs(error_class(answer, summary, 0), BadRank)
        self.assertEqual(without(summary, 0).entries, ((6, 2, 2), (7, 3, 3)))
        self.assertEqual((fewest(summary, 0), fewest(summary, 1)), ((0, 1, 2), (1,)))
        self.assertEqual(kept_from((7, 6, 5), (1,)).entries, ((5, 1, 1),))
        self.assertEqual([can_have(summary, (), value) for value in (5, 6, 7)], [[1], [2], [3]])
        self.assertEqual(row_with(summary, ((1, 5), (3, 7))), (5, 6, 7))
        self.assertEqual([error_of(row_with, summary, told).index for told in (((0, 5),), ((3, 5), (4, 5)))], [0, 1])
        self.assertEqual([keeper_of(7, 5, 6).answer(rank) for rank in (1, 2, 3)], [5, 6, 7])
        error = error_of(read_summary, "x")
        self.assertEqual((type(error), error.line, error.word), (InvalidText, 1, 1))


class FromLeftToRight(unittest.TestCase):

    def test_the_first_error(self):
        self.assertIs(error_class(Summary, None, None), BadCount)
        self.assertEqual(error_of(Summary, 3, ((1, 1, 4), None, (0, 1, 1))).index, 0)
        self.assertEqual(error_of(Summary, HUGE, ((2, 1, 4), (1, 1, 1), None)).index, 1)
        for function in (without, fewest, put_in, joined, within, lacking_row):
            self.assertIs(error_class(function, None, None), BadSummary)
        for function in (leaves, kept_from):
            self.assertIs(error_class(function, None, None), BadRow)

    def test_the_first_error_of_three_arguments(self):
        no_row, long = Summary(41, ((1, 1, 1), (2, 1, 1))), Summary(41, ())
        for function in (count_rows, can_have):
            self.assertIs(error_class(function, None, None, None), BadSummary)
            self.assertIs(error_class(function, no_row, None, None), NoRow)
        self.assertIs(error_class(row_with, None, None), BadSummary)
        self.assertIs(error_class(row_with, no_row, None), NoRow)
        self.assertIs(error_class(can_have, long, None, None), BadTold)
        self.assertIs(error_class(can_have, long, (), None), BadValue)
        self.assertIs(error_class(can_have, long, (), 5), TooLong)
        self.assertIs(error_class(row_with, long, None), BadTold)
        self.assertIs(error_class(row_with, long, ()), TooLong)
        self.assertIs(error_class(count_rows, long, None, 5), BadValue)
        self.assertIs(error_class(count_rows, long, 5, None), BadValue)
        self.assertIs(error_class(count_rows, long, 5, 4), TooLong)


if __name__ == "__main__":
    unittest.main()
