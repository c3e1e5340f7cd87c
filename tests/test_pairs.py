"""Point 11: within, lacking_row."""

import unittest

from shortranks.errors import BadSummary, NoRow, TooLong
from shortranks.pairs import lacking_row, within
from shortranks.summaries import Summary, tightened
from tests.any_values import HUGE, error_class, is_integer, is_summary, others
from tests.small_rows import has_places

NEAR = Summary(3, ((5, 2, 2),))
FAR = Summary(3, ((5, 1, 3),))
NO_ROW = Summary(3, ((1, 1, 1), (2, 1, 1)))
ANY = Summary(3, ())


class Examples(unittest.TestCase):

    def test_all(self):
        self.assertEqual([within(NEAR, FAR), within(FAR, NEAR), lacking_row(NEAR, FAR), within(NEAR, Summary(3, ())),
                          within(NEAR, Summary(4, ()))],
                         [True, False, None, True, False])
        self.assertEqual([within(Summary(2, ((5, 1, 2), (5, 1, 2))), Summary(2, ((5, 2, 2),))),
                          lacking_row(Summary(1, ((5, 1, 1),)), Summary(1, ((6, 1, 1),)))],
                         [True, (5,)])


class Pairs(unittest.TestCase):

    def assert_within(self, one, other):
        with self.subTest(one=one.entries, other=other.entries):
            self.assertIs(within(one, other), True)
            self.assertIsNone(lacking_row(one, other))

    def assert_not_within(self, one, other):
        with self.subTest(one=one.entries, other=other.entries):
            self.assertIs(within(one, other), False)
            row = lacking_row(one, other)
            self.assertIs(type(row), tuple)
            self.assertTrue(all(is_integer(number) for number in row))
            self.assertEqual((len(row), list(row)), (one.many, sorted(row)))
            self.assertTrue(has_places(row, one.entries))
            if one.many == other.many:
                self.assertFalse(has_places(row, other.entries))

    def test_a_summary_and_itself(self):
        for summary in (NEAR, FAR, ANY, Summary(6, ((2, 1, 4), (2, 2, 3), (9, 5, 6)))):
            self.assert_within(summary, summary)
            self.assert_within(summary, tightened(summary))
            self.assert_within(tightened(summary), summary)

    def test_narrower_and_wider_ranks(self):
        self.assert_within(NEAR, FAR)
        self.assert_not_within(FAR, NEAR)
        self.assert_not_within(FAR, Summary(3, ((5, 1, 2),)))
        self.assert_not_within(FAR, Summary(3, ((5, 2, 3),)))

    def test_without_entries(self):
        self.assert_within(NEAR, ANY)
        self.assert_within(ANY, ANY)
        self.assert_not_within(ANY, FAR)
        self.assert_not_within(Summary(40, ()), Summary(40, ((0, 1, 40),)))
        self.assert_not_within(Summary(1, ()), Summary(1, ((0, 1, 1),)))

    def test_numbers_between_equal_ones_are_equal_to_them(self):
        one = Summary(5, ((5, 1, 1), (5, 4, 4)))
        self.assert_within(one, Summary(5, ((5, 2, 2), (5, 3, 3))))
        self.assert_within(one, Summary(5, ((5, 1, 1), (5, 2, 2), (5, 3, 3), (5, 4, 4))))
        self.assert_not_within(one, Summary(5, ((5, 5, 5),)))
        self.assert_not_within(one, Summary(5, ((5, 1, 5),) * 5))

    def test_the_ranks_of_other_may_change_with_the_row(self):
        # No one rank of other stands for all rows here: each row has places of its own.
        self.assert_within(Summary(2, ((5, 1, 2), (5, 1, 2))), Summary(2, ((5, 2, 2),)))
        self.assert_within(Summary(3, ((5, 1, 3), (5, 1, 3))), Summary(3, ((5, 2, 2),)))
        self.assert_not_within(Summary(4, ((5, 1, 4), (5, 1, 4))), Summary(4, ((5, 2, 2),)))
        self.assert_within(Summary(4, ((5, 1, 4), (5, 1, 4))), Summary(4, ((5, 2, 4),)))

    def test_numbers_are_integers(self):
        # Between 5 and 6 stands no other number; between 5 and 7 stands 6 alone.
        self.assert_not_within(Summary(3, ((5, 1, 1), (6, 3, 3))), Summary(3, ((5, 2, 2),)))
        self.assert_not_within(Summary(3, ((5, 1, 1), (7, 3, 3))), Summary(3, ((6, 2, 2),)))
        self.assert_within(Summary(4, ((5, 1, 2), (5, 2, 3), (6, 4, 4))), Summary(4, ((5, 2, 2), (6, 4, 4))))

    def test_tightened_ranks_of_one_count(self):
        one = Summary(3, ((5, 1, 3), (6, 1, 3), (7, 1, 3)))
        self.assert_within(one, Summary(3, ((5, 1, 1), (6, 2, 2), (7, 3, 3))))
        self.assert_within(one, Summary(3, ((6, 2, 2),)))
        self.assert_within(Summary(2, ((5, 1, 2), (5, 1, 2))), Summary(2, ((5, 1, 1), (5, 2, 2))))

    def test_values_that_only_one_of_both_has(self):
        self.assert_not_within(NEAR, Summary(3, ((5, 2, 2), (6, 3, 3))))
        self.assert_not_within(NEAR, Summary(3, ((4, 1, 1), (5, 2, 2))))
        self.assert_within(Summary(3, ((5, 2, 2), (6, 3, 3))), NEAR)

    def test_other_that_no_row_leaves(self):
        for one in (NEAR, FAR, ANY):
            self.assert_not_within(one, NO_ROW)
        self.assert_not_within(Summary(3, ((1, 1, 3),) * 3), Summary(3, ((1, 1, 3),) * 4))

    def test_unlike_counts(self):
        for many in (1, 2, 4, 40, 41, HUGE):
            self.assert_not_within(NEAR, Summary(many, ()))
            self.assert_not_within(ANY, Summary(many, ((5, 1, 1),)))
        self.assert_not_within(Summary(40, ()), Summary(41, ()))
        self.assert_not_within(Summary(40, ((1, 1, 1),)), Summary(HUGE, ((1, 1, 1),)))

    def test_least_and_greatest(self):
        self.assert_within(Summary(1, ((HUGE, 1, 1),)), Summary(1, ((HUGE, 1, 1),)))
        self.assert_not_within(Summary(1, ((HUGE, 1, 1),)), Summary(1, ((-HUGE, 1, 1),)))
        self.assert_not_within(Summary(1, ((-HUGE, 1, 1),)), Summary(1, ((HUGE, 1, 1),)))
        twelve = tuple((7, 1, 40) for _ in range(12))
        self.assert_within(Summary(40, twelve), Summary(40, ((7, 1, 29), (7, 12, 40))))
        self.assert_not_within(Summary(40, twelve), Summary(40, ((7, 1, 28),)))
        self.assert_not_within(Summary(40, twelve), Summary(40, ((7, 13, 40),)))
        self.assert_not_within(Summary(40, twelve[:11]), Summary(40, twelve))
        self.assert_within(Summary(40, twelve), Summary(40, twelve[:11]))
        self.assert_not_within(Summary(40, ((-HUGE, 1, 40), (HUGE, 1, 40))), Summary(40, ((0, 1, 40),)))

    def test_bad_summary_for_either_one(self):
        for function in (within, lacking_row):
            for value in others(is_summary):
                with self.subTest(function=function, value=value):
                    for summary in (NEAR, NO_ROW, Summary(41, ()), None, value):
                        self.assertIs(error_class(function, value, summary), BadSummary)
                        self.assertIs(error_class(function, summary, value), BadSummary)

    def test_no_row(self):
        for function in (within, lacking_row):
            for other in (NEAR, NO_ROW, ANY, Summary(4, ()), Summary(HUGE, ())):
                self.assertIs(error_class(function, NO_ROW, other), NoRow)

    def test_too_long(self):
        for function in (within, lacking_row):
            for many in (41, 42, HUGE):
                for other in (NEAR, NO_ROW, Summary(41, ()), Summary(HUGE, ((1, 1, 1),))):
                    self.assertIs(error_class(function, Summary(many, ()), other), TooLong)
                    self.assertIs(error_class(function, Summary(many, ((1, 1, 1),)), other), TooLong)

    def test_no_row_comes_before_too_long(self):
        for function in (within, lacking_row):
            for many in (41, HUGE):
                self.assertIs(error_class(function, Summary(many, ((1, 1, 1), (2, 1, 1))), NEAR), NoRow)


if __name__ == "__main__":
    unittest.main()
