"""Point 8: leaves, row_for, kept_from."""

import unittest

from shortranks.errors import BadRanks, BadRow, BadSummary, NoRow, TooLong
from shortranks.rows import kept_from, leaves, row_for
from shortranks.summaries import Summary
from tests.any_values import HUGE, error_class, is_integer, is_summary, others
from tests.small_rows import has_places

TOLD = Summary(4, ((5, 1, 2), (9, 2, 4)))
NO_ROW = Summary(2, ((1, 1, 1), (2, 1, 1)))
FORTY = tuple(range(40))


def is_row(value):
    return isinstance(value, tuple) and 1 <= len(value) <= 40 and all(is_integer(number) for number in value)


def bad_rows():
    return others(is_row) + [
        (), (0,) * 41, FORTY + (40,), (None,) * 40, [1, 2], "12", (1, True), (False, 1), (1, None), (1, "2"),
        (1, (2,)), (1, [2]), (1, 2, Summary(3, ())),
    ]


class Examples(unittest.TestCase):

    def test_all(self):
        self.assertEqual([leaves((9, 5, 7, 9), TOLD), leaves((5, 6, 7, 8), TOLD), leaves(row_for(TOLD), TOLD),
                          kept_from((9, 5, 7), (1, 3)).entries],
                         [True, False, True, ((5, 1, 1), (9, 3, 3))])


class Leaves(unittest.TestCase):

    def assert_leaves(self, expected, row, summary):
        with self.subTest(row=row, entries=summary.entries):
            self.assertIs(leaves(row, summary), expected)

    def test_in_any_order(self):
        for row in ((5, 7, 9, 9), (9, 9, 7, 5), (7, 9, 5, 9), (9, 5, 9, 7)):
            self.assert_leaves(True, row, TOLD)
        for row in ((5, 7, 8, 10), (10, 8, 7, 5), (6, 7, 9, 9), (9, 9, 6, 7)):
            self.assert_leaves(False, row, TOLD)

    def test_low_and_high_are_told_ranks(self):
        summary = Summary(6, ((5, 3, 4),))
        self.assert_leaves(False, (4, 5, 6, 7, 8, 9), summary)
        self.assert_leaves(True, (3, 4, 5, 6, 7, 8), summary)
        self.assert_leaves(True, (2, 3, 4, 5, 6, 7), summary)
        self.assert_leaves(False, (1, 2, 3, 4, 5, 6), summary)
        self.assert_leaves(True, (5, 5, 5, 6, 7, 8), summary)
        self.assert_leaves(True, (2, 3, 4, 5, 5, 5), summary)

    def test_each_rank_is_greater_than_the_one_before(self):
        summary = Summary(3, ((5, 1, 3), (5, 1, 3)))
        self.assert_leaves(True, (5, 5, 6), summary)
        self.assert_leaves(True, (4, 5, 5), summary)
        self.assert_leaves(False, (4, 5, 6), summary)
        summary = Summary(3, ((5, 2, 3), (5, 1, 2)))
        self.assert_leaves(False, (5, 5, 5), summary)
        self.assert_leaves(True, (5, 5, 5), Summary(3, ((5, 1, 1), (5, 1, 3), (5, 1, 3))))
        self.assert_leaves(True, (5, 5, 5), Summary(3, ((5, 1, 3), (5, 1, 3), (5, 3, 3))))

    def test_the_first_place_is_not_the_only_one(self):
        self.assert_leaves(True, (5, 5, 5, 5), Summary(4, ((5, 1, 4), (5, 4, 4))))
        self.assert_leaves(True, (5, 5, 5, 5), Summary(4, ((5, 1, 1), (5, 1, 2), (5, 4, 4))))

    def test_as_many_numbers_as_the_count_tells(self):
        empty = Summary(3, ())
        self.assert_leaves(True, (1, 2, 3), empty)
        self.assert_leaves(False, (1, 2), empty)
        self.assert_leaves(False, (1, 2, 3, 4), empty)
        self.assert_leaves(False, (5,), Summary(2, ((5, 1, 1),)))
        self.assert_leaves(False, (5, 5), Summary(1, ((5, 1, 1),)))
        self.assert_leaves(False, (5,), Summary(HUGE, ((5, HUGE, HUGE),)))

    def test_a_summary_that_no_row_leaves(self):
        self.assert_leaves(False, (1, 2), NO_ROW)
        self.assert_leaves(False, (1, 1), NO_ROW)
        self.assert_leaves(False, (1, 1, 1), Summary(3, ((1, 1, 3),) * 4))

    def test_numbers_of_any_size(self):
        summary = Summary(3, ((-HUGE, 2, 2), (HUGE, 3, 3)))
        self.assert_leaves(True, (HUGE, -HUGE, -(10 ** 60)), summary)
        self.assert_leaves(False, (10 ** 60, -HUGE, -(10 ** 60)), summary)
        self.assert_leaves(True, (10 ** 60,), Summary(1, ()))

    def test_least_and_greatest_length(self):
        self.assert_leaves(True, (7,), Summary(1, ((7, 1, 1),)))
        self.assert_leaves(False, (8,), Summary(1, ((7, 1, 1),)))
        self.assert_leaves(True, FORTY[::-1], Summary(40, ((0, 1, 1), (39, 40, 40))))
        self.assert_leaves(False, FORTY[::-1], Summary(40, ((0, 1, 1), (39, 39, 39))))

    def test_twelve_entries(self):
        entries = tuple((7, 1, 40) for _ in range(12))
        self.assert_leaves(True, (7,) * 12 + (6,) * 28, Summary(40, entries))
        self.assert_leaves(False, (7,) * 11 + (6,) * 29, Summary(40, entries))

    def test_bad_row(self):
        for row in bad_rows():
            with self.subTest(row=row):
                self.assertIs(error_class(leaves, row, TOLD), BadRow)

    def test_bad_summary(self):
        for value in others(is_summary):
            with self.subTest(value=value):
                self.assertIs(error_class(leaves, (1, 2, 3, 4), value), BadSummary)

    def test_a_bad_row_comes_before_a_bad_summary(self):
        for row in bad_rows():
            for summary in (None, 4, (), NO_ROW):
                self.assertIs(error_class(leaves, row, summary), BadRow)


class RowFor(unittest.TestCase):

    def assert_row(self, summary):
        with self.subTest(many=summary.many, entries=summary.entries):
            row = row_for(summary)
            self.assertTrue(is_row(row))
            self.assertEqual((len(row), list(row)), (summary.many, sorted(row)))
            self.assertTrue(has_places(row, summary.entries))

    def test_ordinary(self):
        self.assert_row(TOLD)
        self.assert_row(Summary(10, ((5, 1, 4), (5, 1, 4), (9, 3, 10))))
        self.assert_row(Summary(6, ((-3, 6, 6),)))
        self.assert_row(Summary(6, ((-3, 2, 2), (-3, 4, 4), (5, 5, 6))))

    def test_ranks_that_are_pushed(self):
        self.assert_row(Summary(9, ((1, 4, 9), (2, 1, 9), (3, 6, 9))))
        self.assert_row(Summary(5, ((1, 1, 5), (2, 1, 3), (2, 1, 3), (4, 4, 4))))
        self.assert_row(Summary(12, tuple((value, 1, 12) for value in range(12))))
        self.assert_row(Summary(12, ((4, 1, 12),) * 12))

    def test_without_entries(self):
        for many in (1, 2, 40):
            self.assert_row(Summary(many, ()))

    def test_least_and_greatest(self):
        self.assert_row(Summary(1, ((5, 1, 1),)))
        self.assert_row(Summary(40, ((-HUGE, 40, 40),)))
        self.assert_row(Summary(40, ((-HUGE, 1, 40), (HUGE, 1, 40))))

    def test_no_row(self):
        self.assertIs(error_class(row_for, NO_ROW), NoRow)
        self.assertIs(error_class(row_for, Summary(3, ((1, 1, 3),) * 4)), NoRow)

    def test_too_long(self):
        for many in (41, 42, HUGE):
            self.assertIs(error_class(row_for, Summary(many, ())), TooLong)
            self.assertIs(error_class(row_for, Summary(many, ((5, 1, 3),))), TooLong)

    def test_no_row_comes_before_too_long(self):
        for many in (41, HUGE):
            self.assertIs(error_class(row_for, Summary(many, ((5, 1, 1), (5, 1, 1)))), NoRow)

    def test_bad_summary(self):
        for value in others(is_summary):
            with self.subTest(value=value):
                self.assertIs(error_class(row_for, value), BadSummary)


class KeptFrom(unittest.TestCase):

    def assert_kept(self, row, ranks, entries):
        with self.subTest(row=row, ranks=ranks):
            summary = kept_from(row, ranks)
            self.assertIs(type(summary), Summary)
            self.assertEqual((summary.many, summary.entries), (len(row), entries))
            self.assertIs(leaves(row, summary), True)

    def test_in_any_order(self):
        for row in ((9, 5, 7), (5, 7, 9), (9, 7, 5), (7, 5, 9)):
            self.assert_kept(row, (1, 3), ((5, 1, 1), (9, 3, 3)))
            self.assert_kept(row, (2,), ((7, 2, 2),))

    def test_equal_numbers(self):
        self.assert_kept((4, 4, 6, 4), (1, 2, 4), ((4, 1, 1), (4, 2, 2), (6, 4, 4)))

    def test_no_rank_and_all_ranks(self):
        self.assert_kept((3, 1, 2), (), ())
        self.assert_kept((3, 1, 2), (1, 2, 3), ((1, 1, 1), (2, 2, 2), (3, 3, 3)))

    def test_least_and_greatest(self):
        self.assert_kept((7,), (1,), ((7, 1, 1),))
        self.assert_kept((HUGE, -HUGE), (1, 2), ((-HUGE, 1, 1), (HUGE, 2, 2)))
        self.assert_kept(FORTY, (1, 40), ((0, 1, 1), (39, 40, 40)))
        self.assert_kept(FORTY[::-1], tuple(range(29, 41)), tuple((rank - 1, rank, rank) for rank in range(29, 41)))

    def test_bad_row(self):
        beyond = [(HUGE + 1,), (-HUGE - 1,), (1, 2, HUGE + 1), (-HUGE - 1, 1, 2), (10 ** 60, 1), (1, -(10 ** 60))]
        for row in bad_rows() + beyond:
            with self.subTest(row=row):
                for ranks in ((), (1,), (1, 1), None, (True,)):
                    self.assertIs(error_class(kept_from, row, ranks), BadRow)

    def test_bad_ranks(self):
        bad = [value for value in others(is_integer) if not isinstance(value, tuple)]
        bad += [(0,), (-1,), (6,), (1, 6), (2, 1), (1, 1), (1, 3, 2), (1, 3, 3), (5, 1), (HUGE,), (None,), (1, None),
                (True,), (1, True), (False,), (1, "2"), ((1,),), ((1, 2),), ([1],), (1, Summary(3, ())), 1, 0, HUGE]
        for ranks in bad:
            with self.subTest(ranks=ranks):
                self.assertIs(error_class(kept_from, (1, 2, 3, 4, 5), ranks), BadRanks)

    def test_any_other_ranks(self):
        # Of the values of all kinds only these are ascending ranks of a row of two.
        for ranks in others(lambda value: value in ((), (1,), (1, 2)) and all(is_integer(rank) for rank in value)):
            with self.subTest(ranks=ranks):
                self.assertIs(error_class(kept_from, (8, 9), ranks), BadRanks)

    def test_more_than_twelve_ranks(self):
        self.assertIs(error_class(kept_from, FORTY, tuple(range(1, 14))), BadRanks)
        self.assertIs(error_class(kept_from, FORTY, tuple(range(1, 41))), BadRanks)


if __name__ == "__main__":
    unittest.main()
