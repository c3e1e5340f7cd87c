"""Point 12: count_rows."""

import unittest
from math import comb, prod

from shortranks.counting import count_rows
from shortranks.errors import BadSummary, BadValue, NoRow, TooLong
from shortranks.summaries import Summary, tightened
from tests.any_values import HUGE, error_class, is_integer, is_summary, others

TOLD = Summary(4, ((5, 1, 2), (9, 2, 4)))
NO_ROW = Summary(2, ((1, 1, 1), (2, 1, 1)))
BEYOND = (HUGE + 1, -HUGE - 1, 10 ** 60, -(10 ** 60))


def rows_of(many, size):
    """How many ascending rows of so many numbers there are from size different ones."""
    return comb(size + many - 1, many)


def rows_through(many, entries, least, greatest):
    """How many rows there are with these values at these ranks, by a look at the numbers between them."""
    points = [(0, least)] + list(entries) + [(many + 1, greatest)]
    return prod(rows_of(rank - before - 1, value - lesser + 1)
                for (before, lesser), (rank, value) in zip(points, points[1:]))


class Examples(unittest.TestCase):

    def test_all(self):
        self.assertEqual([count_rows(Summary(2, ()), 0, 2), count_rows(Summary(2, ((1, 1, 2),)), 0, 2),
                          count_rows(Summary(3, ((5, 2, 2),)), 4, 6), count_rows(Summary(1, ()), 1, 10 ** 30),
                          count_rows(Summary(2, ()), 3, 2)],
                         [6, 3, 4, 1000000000000000000000000000000, 0])


class Counted(unittest.TestCase):

    def test_without_entries(self):
        for many in (1, 2, 7, 39, 40):
            for least, greatest in ((0, 0), (-3, 4), (7, 106), (-HUGE, HUGE), (HUGE, HUGE), (1, HUGE)):
                with self.subTest(many=many, least=least, greatest=greatest):
                    self.assertEqual(count_rows(Summary(many, ()), least, greatest),
                                     rows_of(many, greatest - least + 1))

    def test_both_ends_are_included(self):
        summary = Summary(1, ((5, 1, 1),))
        self.assertEqual([count_rows(summary, *ends) for ends in ((5, 5), (4, 5), (5, 6), (4, 4), (6, 6), (6, 4))],
                         [1, 1, 1, 0, 0, 0])
        self.assertEqual([count_rows(Summary(2, ((5, 1, 2),)), *ends) for ends in ((5, 5), (4, 5), (5, 6), (4, 6))],
                         [1, 2, 2, 3])

    def test_a_kept_value_outside_of_the_range(self):
        self.assertEqual([count_rows(TOLD, *ends) for ends in ((5, 9), (6, 9), (5, 8), (6, 8), (10, 12), (0, 4))],
                         [15, 0, 0, 0, 0, 0])
        self.assertEqual(count_rows(Summary(3, ((-HUGE, 1, 3), (HUGE, 1, 3))), -HUGE, HUGE - 1), 0)
        self.assertEqual(count_rows(Summary(3, ((-HUGE, 1, 3), (HUGE, 1, 3))), 1 - HUGE, HUGE), 0)

    def test_no_range(self):
        for summary in (TOLD, Summary(1, ()), Summary(40, ()), Summary(40, ((3, 1, 40),))):
            for least, greatest in ((4, 3), (HUGE, -HUGE), (1, 0), (10, 2)):
                self.assertEqual(count_rows(summary, least, greatest), 0)

    def test_told_ranks(self):
        for many, points in ((3, ((2, 5),)), (5, ((1, 0), (5, 9))), (7, ((3, 4), (4, 4), (6, 8))), (40, ((40, 3),)),
                             (40, tuple((3 * place + 2, place // 2) for place in range(12)))):
            summary = Summary(many, tuple((value, rank, rank) for rank, value in points))
            for least, greatest in ((0, 9), (-5, 10), (-HUGE, HUGE)):
                with self.subTest(many=many, points=points, least=least, greatest=greatest):
                    self.assertEqual(count_rows(summary, least, greatest),
                                     rows_through(many, points, least, greatest))

    def test_values_that_a_row_must_have(self):
        # At any ranks: the other numbers of the row are free.
        for many in (12, 13, 40):
            for values in (tuple(range(12)), (5,) * 12, (0, 0, 0, 1, 2, 2, 7, 7, 7, 7, 7, 9), (3,), ()):
                summary = Summary(many, tuple((value, 1, many) for value in values))
                for least, greatest in ((0, 11), (-4, 20), (-HUGE, HUGE)):
                    with self.subTest(many=many, values=values, least=least):
                        self.assertEqual(count_rows(summary, least, greatest),
                                         rows_of(many - len(values), greatest - least + 1))

    def test_a_row_with_several_places_is_counted_once(self):
        self.assertEqual(count_rows(Summary(4, ((5, 1, 4),)), 5, 5), 1)
        self.assertEqual(count_rows(Summary(4, ((5, 1, 4), (5, 1, 4))), 5, 6), 3)

    def test_ranks_are_those_of_the_tightened_summary(self):
        for summary in (TOLD, Summary(9, ((1, 1, 9), (2, 1, 9), (3, 1, 4))), Summary(5, ((1, 1, 5),) * 4)):
            self.assertEqual(count_rows(summary, -2, 12), count_rows(tightened(summary), -2, 12))

    def test_values_at_the_bounds(self):
        summary = Summary(40, ((-HUGE, 1, 1), (HUGE, 40, 40)))
        self.assertEqual(count_rows(summary, -HUGE, HUGE), rows_of(38, 2 * HUGE + 1))
        self.assertEqual(count_rows(Summary(2, ((-HUGE, 1, 2),)), -HUGE, -HUGE), 1)
        self.assertEqual(count_rows(Summary(2, ((HUGE, 1, 2),)), HUGE - 1, HUGE), 2)


class Refused(unittest.TestCase):

    def test_bad_summary(self):
        for value in others(is_summary):
            with self.subTest(value=value):
                for rest in ((0, 1), (None, 1), (0, None), (value, value), (HUGE + 1, 0)):
                    self.assertIs(error_class(count_rows, value, *rest), BadSummary)

    def test_no_row_comes_before_bad_values_and_too_long(self):
        for summary in (NO_ROW, Summary(41, ((1, 1, 1), (2, 1, 1))), Summary(HUGE, ((1, 1, 1), (2, 1, 1)))):
            for rest in ((0, 1), (1, 0), (None, 1), (0, None), (True, False), BEYOND[:2]):
                self.assertIs(error_class(count_rows, summary, *rest), NoRow)

    def test_bad_value_for_either_one(self):
        for value in others(lambda value: is_integer(value) and -HUGE <= value <= HUGE) + list(BEYOND):
            with self.subTest(value=value):
                for summary in (TOLD, Summary(1, ()), Summary(41, ()), Summary(HUGE, ((1, 1, 2),))):
                    self.assertIs(error_class(count_rows, summary, value, 3), BadValue)
                    self.assertIs(error_class(count_rows, summary, 3, value), BadValue)
                    self.assertIs(error_class(count_rows, summary, value, value), BadValue)

    def test_too_long(self):
        for many in (41, 42, HUGE):
            for ends in ((0, 1), (1, 0), (-HUGE, HUGE), (7, 7)):
                self.assertIs(error_class(count_rows, Summary(many, ()), *ends), TooLong)
                self.assertIs(error_class(count_rows, Summary(many, ((5, 1, 3),)), *ends), TooLong)
        self.assertIsNone(error_class(count_rows, Summary(40, ()), 0, 1))


if __name__ == "__main__":
    unittest.main()
