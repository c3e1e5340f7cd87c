"""Point 13: row_with, can_have."""

import unittest

from shortranks.errors import BadSummary, BadTold, BadValue, NoRow, TooLong
from shortranks.fixed import can_have, row_with
from shortranks.summaries import Summary, tightened
from tests.any_values import HUGE, any_values, error_class, error_of, is_integer, is_summary, others
from tests.small_rows import has_places

TOLD = Summary(4, ((5, 2, 2), (8, 3, 4)))
NO_ROW = Summary(2, ((1, 1, 1), (2, 1, 1)))
NO_ROWS = (NO_ROW, Summary(41, ((1, 1, 1), (2, 1, 1))), Summary(HUGE, ((1, HUGE, HUGE), (2, 1, HUGE))))
LONG = (Summary(41, ()), Summary(42, ((5, 1, 3),)), Summary(HUGE, ((5, 1, HUGE),)))
# Told numbers that are none for a count of 4, each with the index of BadTold.
BAD_TOLD = (
    (((0, 5),), 0), (((5, 5),), 0), (((-1, 5),), 0), (((HUGE, 5),), 0), (((1, HUGE + 1),), 0),
    (((1, -HUGE - 1),), 0), (((1, 10 ** 60),), 0), (((1,),), 0), (((1, 5, 5),), 0), (((),), 0), (([1, 5],), 0),
    (("15",), 0), (({1: 5, 2: 6},), 0), ((1, 5), 0), (((True, 5),), 0), (((1, True),), 0), (((None, 5),), 0),
    (((1, None),), 0), (((1, "5"),), 0), ((((1,), 5),), 0),
    (((1, 5), (1, 5)), 1), (((2, 5), (1, 5)), 1), (((1, 5), (2, 4)), 1), (((1, 5), (3, 6), (2, 7)), 2),
    (((1, 5), (3, 6), (3, 6)), 2), (((1, 5), (3, 6), (4, 5)), 2), (((1, HUGE), (2, -HUGE)), 1),
    (((1, 5), None), 1), (((1, 5), (2, 5), (3, 5), (5, 5)), 3), (((1, 5), None, (1, 4)), 1),
    (((2, 5), (1, 4), None), 1), (((1, 5), (2, 4), (2, 3)), 1), ((None,) * 12, 0),
    ((None,) * 13, None), (((1, 5),) * 13, None),
)


class Examples(unittest.TestCase):

    def test_row_with(self):
        self.assertEqual([row_with(Summary(2, ((5, 1, 2),)), ((1, 5), (2, 9))),
                          row_with(Summary(2, ((5, 1, 2),)), ((1, 4), (2, 9))),
                          row_with(Summary(2, ((5, 1, 2),)), ((1, 4), (2, 5)))],
                         [(5, 9), None, (4, 5)])

    def test_can_have(self):
        summary = Summary(4, ((5, 2, 2), (8, 3, 4)))
        self.assertEqual([can_have(summary, ((1, 5),), 5), can_have(summary, (), 7), can_have(summary, (), 9)],
                         [[1, 2, 3], [3], [4]])


class RowWith(unittest.TestCase):

    def assert_row(self, summary, told):
        with self.subTest(many=summary.many, entries=summary.entries, told=told):
            row = row_with(summary, told)
            self.assertIs(type(row), tuple)
            self.assertTrue(all(is_integer(number) for number in row))
            self.assertEqual((len(row), list(row)), (summary.many, sorted(row)))
            self.assertTrue(has_places(row, summary.entries))
            self.assertEqual([row[rank - 1] for rank, _ in told], [value for _, value in told])

    def assert_none(self, summary, told):
        with self.subTest(many=summary.many, entries=summary.entries, told=told):
            self.assertIsNone(row_with(summary, told))

    def test_without_told_numbers(self):
        for summary in (TOLD, Summary(1, ()), Summary(40, ()), Summary(6, ((-3, 6, 6),)),
                        Summary(12, ((4, 1, 12),) * 12), Summary(40, ((-HUGE, 1, 40), (HUGE, 1, 40)))):
            self.assert_row(summary, ())

    def test_without_entries(self):
        for told in (((1, 7),), ((40, 7),), ((20, -HUGE),), ((1, -HUGE), (40, HUGE)), ((3, 2), (4, 2), (9, 5)),
                     tuple((rank, rank // 3) for rank in range(2, 14))):
            self.assert_row(Summary(40, ()), told)
        self.assert_row(Summary(1, ()), ((1, HUGE),))

    def test_a_told_number_in_the_place_of_a_kept_one(self):
        self.assert_row(TOLD, ((2, 5),))
        self.assert_row(TOLD, ((1, 5), (2, 5), (3, 8), (4, 8)))
        self.assert_none(TOLD, ((2, 4),))
        self.assert_none(TOLD, ((2, 6),))
        self.assert_row(TOLD, ((3, 7),))
        self.assert_row(TOLD, ((4, 9),))
        self.assert_none(TOLD, ((3, 7), (4, 9)))
        self.assert_none(TOLD, ((3, 9),))

    def test_kept_numbers_are_pushed_by_told_ones(self):
        summary = Summary(6, ((5, 1, 6), (5, 1, 6)))
        self.assert_row(summary, ((4, 4),))
        self.assert_row(summary, ((3, 6),))
        self.assert_row(summary, ((1, 4), (4, 6)))
        self.assert_none(summary, ((5, 4),))
        self.assert_none(summary, ((2, 6),))
        self.assert_none(summary, ((2, 4), (4, 6)))
        self.assert_row(summary, ((2, 4), (3, 5), (5, 6)))
        summary = Summary(6, ((4, 1, 4), (5, 2, 5), (6, 3, 6)))
        self.assert_row(summary, ((3, 3), (4, 4), (5, 5), (6, 6)))
        self.assert_none(summary, ((4, 3),))
        self.assert_none(summary, ((3, 3), (5, 4)))

    def test_told_ranks_between_kept_ones(self):
        summary = Summary(7, ((1, 1, 1), (9, 7, 7)))
        for value in range(1, 10):
            for rank in range(2, 7):
                self.assert_row(summary, ((rank, value),))
        self.assert_none(summary, ((2, 0),))
        self.assert_none(summary, ((6, 10),))

    def test_least_and_greatest(self):
        twelve = tuple((place, 1, 40) for place in range(12))
        self.assert_row(Summary(40, twelve), tuple((rank, 11) for rank in range(29, 41)))
        self.assert_row(Summary(40, twelve), tuple((rank, 11) for rank in range(12, 24)))
        self.assert_none(Summary(40, twelve), tuple((rank, 11) for rank in range(11, 23)))
        self.assert_row(Summary(40, twelve), tuple((rank, 0) for rank in range(18, 30)))
        self.assert_none(Summary(40, twelve), tuple((rank, 0) for rank in range(19, 31)))
        self.assert_row(Summary(40, ((-HUGE, 2, 40), (HUGE, 1, 39))), ((3, -HUGE), (4, HUGE)))
        self.assert_none(Summary(40, ((-HUGE, 2, 40), (HUGE, 1, 39))), ((39, -HUGE), (40, HUGE)))
        self.assert_row(Summary(1, ((HUGE, 1, 1),)), ((1, HUGE),))
        self.assert_none(Summary(1, ((HUGE, 1, 1),)), ((1, -HUGE),))


class CanHave(unittest.TestCase):

    def assert_ranks(self, expected, summary, told, value):
        with self.subTest(many=summary.many, entries=summary.entries, told=told, value=value):
            ranks = can_have(summary, told, value)
            self.assertIs(type(ranks), list)
            self.assertTrue(all(is_integer(rank) for rank in ranks))
            self.assertEqual(ranks, expected)

    def test_without_told_numbers(self):
        self.assert_ranks([1], TOLD, (), 4)
        self.assert_ranks([1, 2, 3], TOLD, (), 5)
        self.assert_ranks([3], TOLD, (), 6)
        self.assert_ranks([3, 4], TOLD, (), 8)
        self.assert_ranks([4], TOLD, (), HUGE)

    def test_without_entries(self):
        self.assert_ranks(list(range(1, 41)), Summary(40, ()), (), 7)
        self.assert_ranks([1], Summary(1, ()), (), -HUGE)
        self.assert_ranks([1], Summary(1, ()), ((1, 6),), 6)
        self.assert_ranks([], Summary(1, ()), ((1, 6),), 7)
        self.assert_ranks(list(range(1, 10)), Summary(9, ()), ((3, 4), (7, 4)), 4)
        self.assert_ranks([1, 2], Summary(9, ()), ((3, 4), (7, 4)), 3)
        self.assert_ranks([4, 5, 6], Summary(9, ()), ((3, 4), (7, 6)), 5)
        self.assert_ranks([1, 2, 3, 4, 5, 6], Summary(9, ()), ((3, 4), (7, 6)), 4)
        self.assert_ranks([1, 2], Summary(9, ()), ((3, 4), (7, 6)), 3)
        self.assert_ranks([8, 9], Summary(9, ()), ((3, 4), (7, 6)), 7)

    def test_no_such_row(self):
        for value in (4, 5, 6, 8, 9):
            self.assert_ranks([], TOLD, ((2, 4),), value)
            self.assert_ranks([], TOLD, ((3, 7), (4, 9)), value)

    def test_told_numbers_push_kept_ones(self):
        summary = Summary(6, ((5, 1, 6), (5, 1, 6)))
        self.assert_ranks([5, 6], summary, ((4, 4),), 5)
        self.assert_ranks([], summary, ((4, 4),), 6)
        self.assert_ranks([1, 2, 3, 4], summary, ((4, 4),), 4)
        self.assert_ranks([1, 2, 3, 4, 5], summary, ((6, 6),), 5)
        self.assert_ranks([3, 4, 5, 6], summary, ((6, 6),), 6)

    def test_twelve_told_numbers(self):
        told = tuple((rank, 11) for rank in range(12, 24))
        twelve = Summary(40, tuple((place, 1, 40) for place in range(12)))
        self.assert_ranks(list(range(12, 41)), twelve, told, 11)
        self.assert_ranks([11], twelve, told, 10)
        self.assert_ranks([1], twelve, told, 0)
        self.assert_ranks(list(range(24, 41)), twelve, told, 12)
        self.assert_ranks([], twelve, told, -1)

    def test_values_at_the_bounds(self):
        summary = Summary(40, ((-HUGE, 1, 40), (HUGE, 1, 40)))
        self.assert_ranks(list(range(1, 40)), summary, (), -HUGE)
        self.assert_ranks(list(range(2, 41)), summary, (), HUGE)
        self.assert_ranks(list(range(2, 40)), summary, (), 0)
        self.assert_ranks(list(range(2, 20)), summary, ((20, 0),), -1)

    def test_ranks_are_those_of_the_tightened_summary(self):
        summary = Summary(9, ((1, 1, 9), (2, 1, 9), (3, 1, 4)))
        for value in range(5):
            self.assertEqual(can_have(summary, (), value), can_have(tightened(summary), (), value))


class Refused(unittest.TestCase):

    def assert_bad_told(self, index, summary, told):
        with self.subTest(many=summary.many, told=told):
            for error in (error_of(row_with, summary, told), error_of(can_have, summary, told, 5),
                          error_of(can_have, summary, told, None), error_of(can_have, summary, told, HUGE + 1)):
                self.assertIs(type(error), BadTold)
                self.assertIs(type(error.index), type(index))
                self.assertEqual(error.index, index)

    def test_bad_told(self):
        for told, index in BAD_TOLD:
            self.assert_bad_told(index, TOLD, told)
        for rank in (0, 42, -1, HUGE):
            self.assert_bad_told(1, Summary(41, ()), ((1, 5), (rank, 5)))
        self.assert_bad_told(0, LONG[2], ((HUGE + 1, 5),))
        self.assert_bad_told(11, Summary(40, ()), tuple((rank, 5) for rank in range(1, 12)) + ((11, 5),))
        self.assert_bad_told(None, Summary(40, ()), tuple((rank, 5) for rank in range(1, 14)))

    def test_any_other_value(self):
        for value in any_values():
            if not isinstance(value, tuple):
                self.assert_bad_told(None, TOLD, value)
            elif value:
                self.assert_bad_told(0, TOLD, value)
            if value != (1, 2):
                self.assert_bad_told(0, TOLD, (value,))
                self.assert_bad_told(1, TOLD, ((1, 5), value, (2, 5)))
        for value in others(is_integer):
            self.assert_bad_told(0, TOLD, ((value, 5),))
            self.assert_bad_told(1, TOLD, ((1, 5), (2, value), None))

    def test_bad_summary(self):
        for value in others(is_summary):
            with self.subTest(value=value):
                for told in ((), ((1, 5),), None, value, ((9, 9),)):
                    self.assertIs(error_class(row_with, value, told), BadSummary)
                    self.assertIs(error_class(can_have, value, told, 5), BadSummary)
                    self.assertIs(error_class(can_have, value, told, None), BadSummary)

    def test_no_row_comes_before_bad_told_bad_value_and_too_long(self):
        for summary in NO_ROWS:
            for told in ((), ((1, 5),), None, [], (None,), ((0, 0),)):
                self.assertIs(error_class(row_with, summary, told), NoRow)
                for value in (5, None, True, HUGE + 1):
                    self.assertIs(error_class(can_have, summary, told, value), NoRow)

    def test_bad_value(self):
        for value in others(lambda value: is_integer(value) and -HUGE <= value <= HUGE) + [HUGE + 1, -HUGE - 1]:
            with self.subTest(value=value):
                for summary in (TOLD, Summary(1, ())) + LONG:
                    self.assertIs(error_class(can_have, summary, (), value), BadValue)
                    self.assertIs(error_class(can_have, summary, ((1, 5),), value), BadValue)
                self.assertIs(error_class(can_have, TOLD, ((2, 4),), value), BadValue)

    def test_too_long_comes_behind_all(self):
        for summary in LONG:
            for told in ((), ((1, 5),), ((2, 5), (41, HUGE))):
                self.assertIs(error_class(row_with, summary, told), TooLong)
                self.assertIs(error_class(can_have, summary, told, 5), TooLong)
            self.assertIs(error_class(row_with, summary, None), BadTold)
            self.assertIs(error_class(can_have, summary, None, None), BadTold)
            self.assertIs(error_class(can_have, summary, (), None), BadValue)
        self.assertIs(error_class(row_with, LONG[2], ((HUGE, HUGE),)), TooLong)
        self.assertIsNone(error_class(row_with, Summary(40, ()), ((40, 5),)))


if __name__ == "__main__":
    unittest.main()
