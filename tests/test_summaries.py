"""Points 2 and 3: Summary and tightened."""

import unittest

from shortranks.errors import BadCount, BadEntries, BadSummary
from shortranks.summaries import Summary, tightened
from tests.any_values import HUGE, any_values, error_class, error_of, is_integer, is_summary, others


class Counts(unittest.TestCase):

    def test_least_and_greatest(self):
        for many in (1, 2, 40, HUGE - 1, HUGE):
            self.assertEqual(Summary(many, ()).many, many)

    def test_beyond_the_bounds(self):
        for many in (0, -1, -HUGE, HUGE + 1, 10 ** 60):
            self.assertIs(error_class(Summary, many, ()), BadCount)

    def test_any_other_value(self):
        for many in others(is_integer):
            with self.subTest(many=many):
                self.assertIs(error_class(Summary, many, ()), BadCount)

    def test_a_bad_count_comes_before_bad_entries(self):
        for many in (0, HUGE + 1, True, None, "3"):
            for entries in (None, [], (None,), ((1, 1, 1),) * 13):
                self.assertIs(error_class(Summary, many, entries), BadCount)


class Entries(unittest.TestCase):

    def assert_bad(self, index, many, entries):
        with self.subTest(many=many, entries=entries):
            error = error_of(Summary, many, entries)
            self.assertIs(type(error), BadEntries)
            self.assertIs(type(error.index), type(index))
            self.assertEqual(error.index, index)

    def test_bounds_of_an_entry(self):
        for entry in ((-HUGE, 1, 1), (HUGE, 1, 1), (0, 7, 7), (0, 1, 7), (0, 3, 4)):
            summary = Summary(7, (entry,))
            self.assertEqual(summary.entries, (entry,))
        entry = (HUGE, HUGE, HUGE)
        self.assertEqual(Summary(HUGE, (entry,)).entries, (entry,))

    def test_beyond_the_bounds_of_an_entry(self):
        for entry in ((-HUGE - 1, 1, 1), (HUGE + 1, 1, 1), (0, 0, 1), (0, -1, 1), (0, 1, 8), (0, 8, 8),
                      (0, 8, 9), (0, 4, 3), (0, 7, 1), (0, 1, 0), (0, 0, 0)):
            self.assert_bad(0, 7, (entry,))
            self.assert_bad(1, 7, ((-HUGE, 1, 7), entry))
            self.assert_bad(1, 7, ((-HUGE, 1, 7), entry, entry))

    def test_zero_up_to_twelve_entries(self):
        for length in range(13):
            entries = tuple((index, 1, 3) for index in range(length))
            summary = Summary(3, entries)
            self.assertEqual(summary.entries, entries)
            self.assertEqual(len(summary), length)

    def test_more_than_twelve_things(self):
        self.assert_bad(None, 20, ((1, 1, 1),) * 13)
        self.assert_bad(None, 20, (None,) * 13)
        self.assert_bad(None, 20, (None,) + ((1, 1, 1),) * 20)
        self.assert_bad(0, 20, (None,) * 12)

    def test_equal_values_and_falling_values(self):
        self.assertEqual(len(Summary(3, ((5, 1, 3), (5, 1, 3), (5, 1, 1)))), 3)
        self.assert_bad(1, 3, ((5, 1, 3), (4, 1, 3)))
        self.assert_bad(2, 3, ((4, 1, 3), (5, 1, 3), (4, 1, 3)))
        self.assert_bad(2, 3, ((4, 1, 3), (5, 1, 3), (4, 1, 3), None))
        self.assert_bad(1, 3, ((4, 1, 3), None, (3, 1, 3)))
        self.assert_bad(1, 3, ((HUGE, 1, 3), (-HUGE, 1, 3)))
        self.assert_bad(11, 3, ((5, 1, 3),) * 11 + ((4, 1, 3),))

    def test_ranks_need_not_ascend(self):
        entries = ((1, 3, 3), (2, 1, 1))
        self.assertEqual(Summary(3, entries).entries, entries)

    def test_no_tuple(self):
        for entries in any_values():
            if not isinstance(entries, tuple):
                self.assert_bad(None, 7, entries)

    def test_a_thing_that_is_no_entry(self):
        for thing in any_values():
            if thing != (1, 1, 1):
                self.assert_bad(0, 7, (thing,))
                self.assert_bad(1, 7, ((0, 1, 1), thing, (0, 1, 1)))

    def test_a_part_of_an_entry_that_is_no_integer(self):
        for thing in others(is_integer):
            self.assert_bad(0, 7, ((thing, 1, 1),))
            self.assert_bad(0, 7, ((1, thing, 1),))
            self.assert_bad(0, 7, ((1, 1, thing),))
            self.assert_bad(2, 7, ((1, 1, 1), (1, 1, 1), (1, thing, thing)))

    def test_entries_of_other_lengths_and_kinds(self):
        for thing in ((), (1,), (1, 1), (1, 1, 1, 1), [1, 1, 1], "111", {1: 1}):
            self.assert_bad(0, 7, (thing,))


class Equality(unittest.TestCase):

    def test_equal_if_both_are(self):
        self.assertTrue(Summary(3, ((5, 1, 2),)) == Summary(3, ((5, 1, 2),)))
        self.assertFalse(Summary(3, ((5, 1, 2),)) != Summary(3, ((5, 1, 2),)))
        self.assertTrue(Summary(HUGE, ()) == Summary(HUGE, ()))

    def test_unequal(self):
        summary = Summary(3, ((5, 1, 2),))
        for other in (Summary(4, ((5, 1, 2),)), Summary(3, ((6, 1, 2),)), Summary(3, ((5, 2, 2),)),
                      Summary(3, ((5, 1, 3),)), Summary(3, ()), Summary(3, ((5, 1, 2), (5, 1, 2)))):
            self.assertFalse(summary == other)
            self.assertTrue(summary != other)

    def test_a_summary_is_not_its_tightened_one(self):
        told = Summary(3, ((5, 1, 3), (6, 1, 3)))
        self.assertFalse(told == tightened(told))

    def test_equal_to_nothing_of_another_kind(self):
        summary = Summary(3, ())
        for other in others(is_summary) + [(3, ()), [3, ()], {3: ()}, 3]:
            with self.subTest(other=other):
                self.assertFalse(summary == other)
                self.assertFalse(other == summary)
                self.assertTrue(summary != other)


class Properties(unittest.TestCase):

    def test_properties_of_the_class_itself(self):
        for name in ("many", "entries"):
            self.assertIsInstance(vars(Summary)[name], property)
        for name in ("__init__", "__len__", "__eq__"):
            self.assertIn(name, vars(Summary))

    def test_they_are_what_was_passed(self):
        entries = ((5, 1, 4), (5, 1, 4), (9, 3, 10))
        summary = Summary(10, entries)
        self.assertEqual((summary.many, summary.entries), (10, entries))
        self.assertIs(type(summary.entries), tuple)


class Tightened(unittest.TestCase):

    def assert_tight(self, many, entries, expected):
        with self.subTest(many=many, entries=entries):
            summary = tightened(Summary(many, entries))
            self.assertIs(type(summary), Summary)
            self.assertEqual((summary.many, summary.entries), (many, expected))
            self.assertEqual(tightened(summary), summary)

    def test_examples_of_the_interface(self):
        told = Summary(10, ((5, 1, 4), (5, 1, 4), (9, 3, 10)))
        self.assertEqual(told.many, 10)
        self.assertEqual(len(told), 3)
        self.assertEqual(tightened(told).entries, ((5, 1, 3), (5, 2, 4), (9, 3, 10)))
        self.assertIsNone(tightened(Summary(2, ((1, 1, 1), (2, 1, 1)))))

    def test_without_entries(self):
        self.assert_tight(1, (), ())
        self.assert_tight(HUGE, (), ())

    def test_lows_are_pushed_up_and_highs_down(self):
        self.assert_tight(9, ((1, 4, 9), (2, 1, 9), (3, 6, 9)), ((1, 4, 7), (2, 5, 8), (3, 6, 9)))
        self.assert_tight(9, ((1, 1, 9), (2, 1, 9), (3, 1, 4)), ((1, 1, 2), (2, 2, 3), (3, 3, 4)))

    def test_what_is_tight_stays(self):
        self.assert_tight(9, ((1, 1, 3), (2, 2, 5), (2, 8, 9)), ((1, 1, 3), (2, 2, 5), (2, 8, 9)))

    def test_as_many_entries_as_numbers(self):
        for many in (1, 5, 12):
            entries = tuple((3, 1, many) for _ in range(many))
            self.assert_tight(many, entries, tuple((3, rank, rank) for rank in range(1, many + 1)))

    def test_no_row(self):
        for many, entries in ((1, ((1, 1, 1), (1, 1, 1))), (3, ((1, 3, 3), (2, 1, 2))), (3, ((1, 1, 3),) * 4),
                              (9, ((1, 4, 5), (2, 4, 5), (3, 4, 5))), (9, ((1, 1, 1), (2, 2, 3), (3, 2, 3), (4, 2, 3))),
                              (HUGE, ((1, HUGE, HUGE), (1, 1, HUGE)))):
            with self.subTest(many=many, entries=entries):
                self.assertIsNone(tightened(Summary(many, entries)))

    def test_great_counts_and_ranks(self):
        self.assert_tight(HUGE, ((-HUGE, 1, HUGE), (HUGE, 1, HUGE)), ((-HUGE, 1, HUGE - 1), (HUGE, 2, HUGE)))
        self.assert_tight(HUGE, ((0, HUGE - 1, HUGE), (0, 1, HUGE)), ((0, HUGE - 1, HUGE - 1), (0, HUGE, HUGE)))

    def test_no_summary(self):
        for value in others(is_summary):
            with self.subTest(value=value):
                self.assertIs(error_class(tightened, value), BadSummary)


if __name__ == "__main__":
    unittest.main()
