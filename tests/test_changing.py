"""Points 6 and 7: without, fewest, put_in, joined."""

import unittest

from shortranks.changing import fewest, joined, put_in, without
from shortranks.errors import BadCount, BadError, BadIndex, BadSummary, BadValue, Full, NoRow
from shortranks.summaries import Summary, tightened
from tests.any_values import HUGE, error_class, is_integer, is_summary, others

TOLD = Summary(10, ((5, 2, 4), (9, 6, 8)))
LOOSE = Summary(10, ((5, 1, 4), (5, 1, 4), (9, 3, 10)))
NO_ROW = Summary(2, ((1, 1, 1), (2, 1, 1)))
TWELVE = Summary(20, tuple((index, index + 1, index + 9) for index in range(12)))


def parts(summary):
    return (summary.many, summary.entries)


class Examples(unittest.TestCase):

    def test_put_in(self):
        self.assertEqual([put_in(TOLD, 7).entries, put_in(TOLD, 1).entries[0], put_in(TOLD, 9).entries[2],
                          put_in(TOLD, 9).many],
                         [((5, 2, 4), (7, 3, 8), (9, 7, 9)), (1, 1, 4), (9, 7, 11), 11])

    def test_fewest_and_without(self):
        self.assertEqual([fewest(TOLD, 4), fewest(TOLD, 3), fewest(TOLD, 8), without(TOLD, 0).entries],
                         [(0, 1), None, (0,), ((9, 6, 8),)])

    def test_joined(self):
        self.assertEqual(joined(TOLD, Summary(3, ((5, 1, 1), (9, 2, 3)))).entries,
                         ((5, 2, 4), (5, 3, 8), (9, 7, 10), (9, 8, 13)))


class Without(unittest.TestCase):

    def test_each_index(self):
        self.assertEqual([parts(without(LOOSE, index)) for index in range(3)],
                         [(10, ((5, 1, 4), (9, 3, 10))), (10, ((5, 1, 4), (9, 3, 10))), (10, ((5, 1, 4), (5, 1, 4)))])

    def test_the_only_one(self):
        self.assertEqual(parts(without(Summary(HUGE, ((-HUGE, 1, HUGE),)), 0)), (HUGE, ()))

    def test_the_first_and_the_last_of_twelve(self):
        self.assertEqual(without(TWELVE, 0).entries, TWELVE.entries[1:])
        self.assertEqual(without(TWELVE, 5).entries, TWELVE.entries[:5] + TWELVE.entries[6:])
        self.assertEqual(without(TWELVE, 11).entries, TWELVE.entries[:-1])

    def test_nothing_is_tightened_and_no_row_is_asked_for(self):
        self.assertEqual(parts(without(NO_ROW, 0)), (2, ((2, 1, 1),)))
        self.assertEqual(parts(without(Summary(3, ((1, 1, 1),) * 3), 1)), (3, ((1, 1, 1),) * 2))

    def test_bad_index(self):
        for index in [2, 3, -1, -2, HUGE, -HUGE] + others(is_integer):
            with self.subTest(index=index):
                self.assertIs(error_class(without, TOLD, index), BadIndex)
                self.assertIs(error_class(without, Summary(10, ()), index), BadIndex)
        for index in (0, 1):
            self.assertIs(error_class(without, Summary(10, ()), index), BadIndex)
        self.assertIs(error_class(without, TWELVE, 12), BadIndex)


class Fewest(unittest.TestCase):

    def test_each_error(self):
        self.assertEqual([fewest(TOLD, error) for error in range(10)],
                         [None, None, None, None, (0, 1), (0, 1), (0, 1), (1,), (0,), (0,)])

    def test_the_least_of_equally_few(self):
        summary = Summary(9, ((1, 1, 1), (2, 3, 3), (3, 5, 5), (4, 7, 7), (5, 9, 9)))
        self.assertEqual([fewest(summary, error) for error in range(9)],
                         [None, (0, 1, 2, 3, 4), (1, 3), (0, 3), (2,), (2,), (1,), (1,), (0,)])

    def test_equal_entries(self):
        summary = Summary(4, ((7, 1, 4),) * 4)
        self.assertEqual([fewest(summary, error) for error in range(4)],
                         [(0, 1, 2, 3), (0, 2), (1,), (0,)])

    def test_all_are_needed(self):
        summary = Summary(12, tuple((index, index + 1, index + 1) for index in range(12)))
        self.assertEqual(fewest(summary, 0), tuple(range(12)))
        self.assertEqual(fewest(summary, 1), (1, 4, 7, 10))
        self.assertEqual(fewest(summary, 2), (0, 4, 9))

    def test_the_tightened_ranks_stay_when_entries_are_left_out(self):
        # Alone and untightened, the entry 0 would have the ranks from 1 to 4.
        self.assertEqual([fewest(LOOSE, error) for error in (6, 7, 8, 9)], [None, (0, 2), (1,), (0,)])
        self.assertEqual(fewest(Summary(3, ((5, 1, 3), (5, 1, 3), (5, 1, 3))), 1), (1,))
        self.assertIsNone(fewest(Summary(3, ((5, 1, 3), (5, 1, 2))), 0))

    def test_one_number(self):
        for error in (0, 1, HUGE):
            self.assertEqual(fewest(Summary(1, ((8, 1, 1),)), error), (0,))

    def test_without_entries(self):
        for error in (0, 3, HUGE, 10 ** 60):
            self.assertIsNone(fewest(Summary(3, ()), error))
            self.assertIsNone(fewest(Summary(HUGE, ()), error))

    def test_great_counts_and_errors(self):
        half = 5 * 10 ** 29
        summary = Summary(HUGE, ((1, 1, 1), (2, half, half), (3, HUGE, HUGE)))
        self.assertEqual([fewest(summary, error) for error in
                          (half // 2 - 1, half // 2, half - 2, half - 1, half, HUGE - 2, HUGE - 1, 10 ** 60)],
                         [None, (0, 1, 2), (0, 1, 2), (0, 2), (1,), (1,), (0,), (0,)])

    def test_bad_error(self):
        for error in [-1, -HUGE, -(10 ** 60)] + others(is_integer):
            with self.subTest(error=error):
                self.assertIs(error_class(fewest, TOLD, error), BadError)
                self.assertIs(error_class(fewest, Summary(3, ()), error), BadError)


class PutIn(unittest.TestCase):

    def assert_put(self, summary, value, entries):
        with self.subTest(entries=summary.entries, value=value):
            result = put_in(summary, value)
            self.assertIs(type(result), Summary)
            self.assertEqual(parts(result), (summary.many + 1, entries))

    def test_before_between_and_behind(self):
        self.assert_put(TOLD, 4, ((4, 1, 4), (5, 3, 5), (9, 7, 9)))
        self.assert_put(TOLD, 5, ((5, 2, 4), (5, 3, 8), (9, 7, 9)))
        self.assert_put(TOLD, 8, ((5, 2, 4), (8, 3, 8), (9, 7, 9)))
        self.assert_put(TOLD, 9, ((5, 2, 4), (9, 6, 8), (9, 7, 11)))
        self.assert_put(TOLD, 10, ((5, 2, 4), (9, 6, 8), (10, 7, 11)))

    def test_behind_all_equal_values(self):
        summary = Summary(9, ((5, 2, 3), (5, 4, 6), (6, 8, 9)))
        self.assert_put(summary, 5, ((5, 2, 3), (5, 4, 6), (5, 5, 9), (6, 9, 10)))
        self.assert_put(Summary(3, ((5, 1, 1), (5, 2, 3))), 5, ((5, 1, 1), (5, 2, 3), (5, 3, 4)))

    def test_ranks_are_those_of_the_tightened_summary(self):
        self.assert_put(LOOSE, 5, ((5, 1, 3), (5, 2, 4), (5, 3, 10), (9, 4, 11)))
        self.assert_put(LOOSE, 1, ((1, 1, 3), (5, 2, 4), (5, 3, 5), (9, 4, 11)))
        self.assert_put(Summary(9, ((1, 4, 9), (2, 1, 9), (3, 6, 9))), 2,
                        ((1, 4, 7), (2, 5, 8), (2, 6, 9), (3, 7, 10)))

    def test_without_entries(self):
        self.assert_put(Summary(1, ()), 0, ((0, 1, 2),))
        self.assert_put(Summary(HUGE - 1, ()), -HUGE, ((-HUGE, 1, HUGE),))

    def test_least_and_greatest_values(self):
        summary = Summary(4, ((-HUGE, 1, 2), (HUGE, 3, 3)))
        self.assert_put(summary, -HUGE, ((-HUGE, 1, 2), (-HUGE, 2, 3), (HUGE, 4, 4)))
        self.assert_put(summary, HUGE, ((-HUGE, 1, 2), (HUGE, 3, 3), (HUGE, 4, 5)))

    def test_great_counts(self):
        summary = Summary(HUGE - 1, ((0, 1, 1), (4, HUGE - 1, HUGE - 1)))
        self.assert_put(summary, 2, ((0, 1, 1), (2, 2, HUGE - 1), (4, HUGE, HUGE)))

    def test_the_twelfth_entry(self):
        summary = without(TWELVE, 11)
        self.assertEqual(put_in(summary, 20).entries, tightened(summary).entries + ((20, 12, 21),))

    def test_full(self):
        for value in (-1, 5, 20, HUGE):
            self.assertIs(error_class(put_in, TWELVE, value), Full)

    def test_bad_count(self):
        self.assertIs(error_class(put_in, Summary(HUGE, ()), 0), BadCount)
        self.assertIs(error_class(put_in, Summary(HUGE, TWELVE.entries[:11]), 0), BadCount)

    def test_bad_value(self):
        for value in [-HUGE - 1, HUGE + 1, -(10 ** 60), 10 ** 60] + others(is_integer):
            with self.subTest(value=value):
                self.assertIs(error_class(put_in, TOLD, value), BadValue)
                self.assertIs(error_class(put_in, Summary(3, ()), value), BadValue)


class Joined(unittest.TestCase):

    def assert_joined(self, one, other, entries):
        with self.subTest(one=one.entries, other=other.entries):
            result = joined(one, other)
            self.assertIs(type(result), Summary)
            self.assertEqual(parts(result), (one.many + other.many, entries))

    def test_the_order_of_the_arguments_counts_for_equal_values(self):
        other = Summary(3, ((5, 1, 1), (9, 2, 3)))
        self.assert_joined(TOLD, other, ((5, 2, 4), (5, 3, 8), (9, 7, 10), (9, 8, 13)))
        self.assert_joined(other, TOLD, ((5, 1, 4), (5, 3, 6), (9, 4, 10), (9, 8, 11)))

    def test_equal_values_keep_the_order_of_each_lot(self):
        one = Summary(3, ((5, 1, 1), (5, 2, 2), (5, 3, 3)))
        other = Summary(4, ((5, 2, 2), (5, 3, 4)))
        self.assert_joined(one, other, ((5, 1, 2), (5, 2, 3), (5, 3, 4), (5, 5, 5), (5, 6, 7)))
        self.assert_joined(other, one, ((5, 2, 2), (5, 3, 4), (5, 4, 5), (5, 5, 6), (5, 6, 7)))

    def test_lots_side_by_side(self):
        low = Summary(3, ((1, 1, 2), (2, 3, 3)))
        high = Summary(4, ((7, 2, 2), (8, 3, 4)))
        self.assert_joined(low, high, ((1, 1, 3), (2, 3, 4), (7, 5, 5), (8, 6, 7)))
        self.assert_joined(high, low, ((1, 1, 3), (2, 3, 4), (7, 5, 5), (8, 6, 7)))

    def test_both_are_tightened_first(self):
        one = Summary(10, ((5, 2, 3), (8, 4, 9)))
        self.assert_joined(one, LOOSE, ((5, 2, 5), (5, 3, 11), (5, 4, 12), (8, 6, 18), (9, 7, 20)))
        self.assert_joined(LOOSE, one, ((5, 1, 5), (5, 2, 6), (5, 4, 12), (8, 6, 18), (9, 7, 20)))

    def test_without_entries(self):
        empty = Summary(5, ())
        self.assert_joined(empty, empty, ())
        self.assert_joined(TOLD, empty, ((5, 2, 9), (9, 6, 13)))
        self.assert_joined(empty, TOLD, ((5, 2, 9), (9, 6, 13)))

    def test_with_itself(self):
        self.assert_joined(TOLD, TOLD, ((5, 2, 7), (5, 4, 11), (9, 8, 15), (9, 12, 18)))

    def test_great_counts_and_values(self):
        half = 5 * 10 ** 29
        one = Summary(half, ((-HUGE, 1, 1), (HUGE, half, half)))
        self.assert_joined(one, one, ((-HUGE, 1, 1), (-HUGE, 2, half), (HUGE, half + 1, HUGE - 1), (HUGE, HUGE, HUGE)))
        self.assertIs(error_class(joined, one, Summary(half + 1, ())), BadCount)
        self.assertEqual(joined(Summary(HUGE - 1, ()), Summary(1, ())).many, HUGE)
        self.assertIs(error_class(joined, Summary(HUGE, ()), Summary(1, ())), BadCount)

    def test_up_to_twelve_entries(self):
        one = Summary(20, TWELVE.entries[:6])
        other = Summary(20, TWELVE.entries[6:])
        self.assertEqual([entry[0] for entry in joined(other, one).entries], list(range(12)))
        self.assertEqual(len(joined(TWELVE, Summary(3, ()))), 12)
        self.assertEqual(len(joined(Summary(3, ()), TWELVE)), 12)
        self.assertIs(error_class(joined, TWELVE, Summary(1, ((0, 1, 1),))), Full)
        self.assertIs(error_class(joined, Summary(1, ((0, 1, 1),)), TWELVE), Full)
        self.assertIs(error_class(joined, TWELVE, TWELVE), Full)


class WhichErrorComesFirst(unittest.TestCase):

    def test_no_summary_comes_before_all(self):
        for value in others(is_summary):
            with self.subTest(value=value):
                for function in (without, fewest, put_in):
                    for second in (0, -1, True, None, value):
                        self.assertIs(error_class(function, value, second), BadSummary)
                for other in (TOLD, NO_ROW, TWELVE, None, value):
                    self.assertIs(error_class(joined, value, other), BadSummary)
                    self.assertIs(error_class(joined, other, value), BadSummary)

    def test_no_row_comes_before_bad_errors_and_values(self):
        for function in (fewest, put_in):
            for second in (0, -1, True, None, "1", (), NO_ROW, HUGE + 1):
                self.assertIs(error_class(function, NO_ROW, second), NoRow)

    def test_no_row_for_either_one(self):
        for other in (TOLD, NO_ROW, TWELVE, Summary(HUGE, ())):
            self.assertIs(error_class(joined, NO_ROW, other), NoRow)
            self.assertIs(error_class(joined, other, NO_ROW), NoRow)

    def test_no_row_comes_before_full_and_bad_count(self):
        full = Summary(HUGE, ((0, 1, 1),) * 12)
        self.assertIs(error_class(put_in, full, 0), NoRow)
        self.assertIs(error_class(joined, full, full), NoRow)
        self.assertIs(error_class(joined, full, Summary(HUGE, ())), NoRow)
        self.assertIs(error_class(joined, Summary(HUGE, ()), full), NoRow)

    def test_a_bad_value_comes_before_full_and_full_before_bad_count(self):
        full = Summary(HUGE, TWELVE.entries)
        for value in (None, True, HUGE + 1):
            self.assertIs(error_class(put_in, TWELVE, value), BadValue)
            self.assertIs(error_class(put_in, full, value), BadValue)
            self.assertIs(error_class(put_in, Summary(HUGE, ()), value), BadValue)
        self.assertIs(error_class(put_in, full, 0), Full)
        self.assertIs(error_class(joined, full, TWELVE), Full)


if __name__ == "__main__":
    unittest.main()
