"""Points 4 and 5: values_at, below, up_to, answer, error_at, worst."""

import unittest

from shortranks.asking import answer, below, error_at, up_to, values_at, worst
from shortranks.errors import BadRank, BadSummary, BadValue, NoEntry, NoRow
from shortranks.summaries import Summary
from tests.any_values import HUGE, error_class, is_integer, is_summary, others

TOLD = Summary(10, ((5, 2, 4), (9, 6, 8)))
LOOSE = Summary(10, ((5, 1, 4), (5, 1, 4), (9, 3, 10)))
NO_ROW = Summary(2, ((1, 1, 1), (2, 1, 1)))
GREAT = Summary(HUGE, ((-HUGE, 1, 1), (0, 5, HUGE), (HUGE, HUGE, HUGE)))


class Examples(unittest.TestCase):

    def test_values_at(self):
        self.assertEqual([values_at(TOLD, rank) for rank in (4, 1, 9)], [(5, 9), (None, 5), (9, None)])

    def test_below_and_up_to(self):
        self.assertEqual([below(TOLD, value) for value in (5, 6, 10)], [(0, 3), (2, 7), (6, 10)])
        self.assertEqual(up_to(TOLD, 9), (6, 10))

    def test_errors(self):
        self.assertEqual([answer(TOLD, 5), error_at(TOLD, 5), worst(TOLD)], [0, 3, (4, 10)])
        self.assertEqual(worst(Summary(10 ** 30, ((7, 1, 1),))),
                         (999999999999999999999999999999, 1000000000000000000000000000000))


class ValuesAt(unittest.TestCase):

    def test_each_rank(self):
        self.assertEqual([values_at(TOLD, rank) for rank in range(1, 11)],
                         [(None, 5), (None, 5), (None, 9), (5, 9), (5, 9), (5, 9), (5, None), (9, None), (9, None),
                          (9, None)])

    def test_ranks_are_those_of_the_tightened_summary(self):
        self.assertEqual([values_at(LOOSE, rank) for rank in (1, 2, 3, 4, 10)],
                         [(None, 5), (None, 5), (5, 9), (5, None), (9, None)])

    def test_without_entries(self):
        self.assertEqual([values_at(Summary(3, ()), rank) for rank in (1, 2, 3)], [(None, None)] * 3)

    def test_one_told_rank(self):
        self.assertEqual(values_at(Summary(1, ((-4, 1, 1),)), 1), (-4, -4))

    def test_great_ranks(self):
        self.assertEqual([values_at(GREAT, rank) for rank in (1, 2, 5, 6, HUGE - 1, HUGE)],
                         [(-HUGE, -HUGE), (-HUGE, 0), (-HUGE, 0), (-HUGE, HUGE), (0, HUGE), (HUGE, HUGE)])

    def test_bad_rank(self):
        for rank in [0, -1, 11, HUGE] + others(is_integer):
            with self.subTest(rank=rank):
                self.assertIs(error_class(values_at, TOLD, rank), BadRank)
        self.assertIs(error_class(values_at, GREAT, HUGE + 1), BadRank)
        self.assertIs(error_class(values_at, Summary(3, ()), 4), BadRank)


class BelowAndUpTo(unittest.TestCase):

    def test_each_value(self):
        self.assertEqual([below(TOLD, value) for value in (4, 5, 6, 8, 9, 10, 11)],
                         [(0, 3), (0, 3), (2, 7), (2, 7), (2, 7), (6, 10), (6, 10)])
        self.assertEqual([up_to(TOLD, value) for value in (3, 4, 5, 7, 8, 9, 10)],
                         [(0, 3), (0, 3), (2, 7), (2, 7), (2, 7), (6, 10), (6, 10)])

    def test_ranks_are_those_of_the_tightened_summary(self):
        self.assertEqual([below(LOOSE, value) for value in (5, 6, 10)], [(0, 2), (2, 9), (3, 10)])
        self.assertEqual([up_to(LOOSE, value) for value in (4, 5, 9)], [(0, 2), (2, 9), (3, 10)])

    def test_equal_values(self):
        summary = Summary(9, ((5, 2, 3), (5, 4, 6), (5, 7, 9)))
        self.assertEqual((below(summary, 5), below(summary, 6)), ((0, 2), (7, 9)))
        self.assertEqual((up_to(summary, 4), up_to(summary, 5)), ((0, 2), (7, 9)))

    def test_without_entries(self):
        for function in (below, up_to):
            self.assertEqual(function(Summary(3, ()), 0), (0, 3))
            self.assertEqual(function(Summary(HUGE, ()), 0), (0, HUGE))

    def test_great_counts(self):
        self.assertEqual([below(GREAT, value) for value in (-HUGE, 0, 1, HUGE, HUGE + 1)],
                         [(0, 0), (1, HUGE - 2), (5, HUGE - 1), (5, HUGE - 1), (HUGE, HUGE)])
        self.assertEqual([up_to(GREAT, value) for value in (-HUGE - 1, -1, 0, HUGE - 1, HUGE)],
                         [(0, 0), (1, HUGE - 2), (5, HUGE - 1), (5, HUGE - 1), (HUGE, HUGE)])

    def test_integers_of_any_size(self):
        for function in (below, up_to):
            self.assertEqual(function(TOLD, -(10 ** 60)), (0, 3))
            self.assertEqual(function(TOLD, 10 ** 60), (6, 10))

    def test_bad_value(self):
        for function in (below, up_to):
            for value in others(is_integer):
                with self.subTest(function=function, value=value):
                    self.assertIs(error_class(function, TOLD, value), BadValue)
                    self.assertIs(error_class(function, Summary(3, ()), value), BadValue)


class Errors(unittest.TestCase):

    def test_each_rank(self):
        self.assertEqual([error_at(TOLD, rank) for rank in range(1, 11)], [3, 2, 1, 2, 3, 2, 1, 2, 3, 4])
        self.assertEqual([answer(TOLD, rank) for rank in range(1, 11)], [0, 0, 0, 0, 0, 1, 1, 1, 1, 1])

    def test_ranks_are_those_of_the_tightened_summary(self):
        self.assertEqual([error_at(LOOSE, rank) for rank in range(1, 11)], [2, 1, 1, 2, 3, 4, 4, 5, 6, 7])
        self.assertEqual([answer(LOOSE, rank) for rank in range(1, 11)], [0, 0, 1, 1, 1, 1, 2, 2, 2, 2])
        self.assertEqual(worst(LOOSE), (7, 10))

    def test_the_first_of_equal_errors(self):
        summary = Summary(9, ((5, 3, 3), (5, 7, 7)))
        self.assertEqual((answer(summary, 5), error_at(summary, 5)), (0, 2))
        summary = Summary(9, ((1, 1, 1), (2, 3, 8), (3, 4, 7)))
        self.assertEqual((answer(summary, 5), error_at(summary, 5)), (1, 2))

    def test_the_least_rank_of_equal_worst_errors(self):
        self.assertEqual(worst(Summary(5, ((5, 3, 3),))), (2, 1))
        self.assertEqual(worst(Summary(6, ((5, 1, 1), (6, 6, 6)))), (2, 3))
        self.assertEqual(worst(Summary(7, ((5, 1, 1), (6, 4, 4), (6, 7, 7)))), (1, 2))
        self.assertEqual(worst(Summary(3, ((5, 1, 1), (6, 2, 2), (6, 3, 3)))), (0, 1))

    def test_worst_at_the_first_and_in_the_middle(self):
        self.assertEqual(worst(Summary(10, ((5, 6, 7), (6, 8, 10)))), (6, 1))
        self.assertEqual(worst(Summary(20, ((5, 2, 3), (6, 15, 18)))), (8, 10))

    def test_one_number(self):
        summary = Summary(1, ((8, 1, 1),))
        self.assertEqual((answer(summary, 1), error_at(summary, 1), worst(summary)), (0, 0, (0, 1)))

    def test_great_counts(self):
        half = 5 * 10 ** 29
        self.assertEqual(worst(Summary(HUGE, ((1, 1, 1), (2, HUGE, HUGE)))), (half - 1, half))
        self.assertEqual(worst(Summary(HUGE, ((1, 1, HUGE),))), (HUGE - 1, 1))
        self.assertEqual(worst(Summary(HUGE, ((1, HUGE, HUGE),))), (HUGE - 1, 1))
        self.assertEqual(worst(Summary(HUGE, ((1, half, half),))), (half, HUGE))
        self.assertEqual(worst(GREAT), (half - 1, half))
        summary = Summary(HUGE, ((1, 1, 1), (2, half, half)))
        self.assertEqual([error_at(summary, rank) for rank in (1, 2, half - 1, half, HUGE)], [0, 1, 1, 0, half])
        self.assertEqual([answer(summary, rank) for rank in (1, 2, half // 2, half // 2 + 1, HUGE)], [0, 0, 0, 1, 1])

    def test_twelve_entries(self):
        summary = Summary(HUGE, tuple((index, 10 * index + 1, 10 * index + 1) for index in range(12)))
        self.assertEqual([answer(summary, rank) for rank in (1, 6, 7, 111, HUGE)], [0, 0, 1, 11, 11])
        self.assertEqual(worst(summary), (HUGE - 111, HUGE))

    def test_no_entry(self):
        for many in (1, 3, HUGE):
            self.assertIs(error_class(worst, Summary(many, ())), NoEntry)
            for function in (answer, error_at):
                self.assertIs(error_class(function, Summary(many, ()), 1), NoEntry)

    def test_bad_rank(self):
        for function in (answer, error_at):
            for rank in [0, -1, 11, HUGE] + others(is_integer):
                with self.subTest(function=function, rank=rank):
                    self.assertIs(error_class(function, TOLD, rank), BadRank)
            self.assertIs(error_class(function, GREAT, HUGE + 1), BadRank)


class WhichErrorComesFirst(unittest.TestCase):

    def test_no_summary_comes_before_all(self):
        for value in others(is_summary):
            with self.subTest(value=value):
                self.assertIs(error_class(worst, value), BadSummary)
                for function in (values_at, below, up_to, answer, error_at):
                    for second in (1, 0, True, None, value):
                        self.assertIs(error_class(function, value, second), BadSummary)

    def test_no_row_comes_before_bad_ranks_and_values(self):
        self.assertIs(error_class(worst, NO_ROW), NoRow)
        for function in (values_at, below, up_to, answer, error_at):
            for second in (1, 0, 3, True, None, "1", (), NO_ROW):
                self.assertIs(error_class(function, NO_ROW, second), NoRow)

    def test_no_entry_comes_before_a_bad_rank(self):
        for function in (answer, error_at):
            for rank in (0, 4, True, None, "1", (), NO_ROW):
                self.assertIs(error_class(function, Summary(3, ()), rank), NoEntry)


if __name__ == "__main__":
    unittest.main()
