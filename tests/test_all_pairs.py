"""Points 8 and 11 judged against all rows of small numbers."""

import unittest
from itertools import combinations

from shortranks.errors import NoRow
from shortranks.pairs import lacking_row, within
from shortranks.rows import kept_from, leaves, row_for
from shortranks.summaries import Summary
from tests.any_values import error_class
from tests.small_rows import all_rows, all_small_summaries, has_places, leaving, places, small_summaries

ROWS = {many: all_rows(many) for many in range(1, 6)}


def shuffled(row, turn):
    """The numbers of a row in another order."""
    middle = turn % len(row)
    return (row[middle:] + row[:middle])[::-1 if turn % 3 else 1]


def every(step, things):
    return [thing for number, thing in enumerate(things) if number % step == 0]


class Rows(unittest.TestCase):

    def judge_row_for(self, summary, found):
        if not found:
            self.assertIs(error_class(row_for, summary), NoRow)
            return
        row = row_for(summary)
        self.assertEqual((type(row), len(row), list(row)), (tuple, summary.many, sorted(row)))
        self.assertTrue(places(row, summary.entries))

    def test_row_for(self):
        for summary in all_small_summaries():
            with self.subTest(many=summary.many, entries=summary.entries):
                self.judge_row_for(summary, leaving(summary, ROWS[summary.many]))

    def test_leaves(self):
        told = {True: 0, False: 0}
        for turn, summary in enumerate(every(5, all_small_summaries())):
            for row in ROWS[summary.many]:
                expected = bool(places(row, summary.entries))
                told[expected] += 1
                with self.subTest(row=row, entries=summary.entries):
                    self.assertIs(leaves(shuffled(row, turn), summary), expected)
                    self.assertIs(has_places(row, summary.entries), expected)
        self.assertGreater(min(told.values()), 1000)

    def test_rows_of_other_lengths(self):
        for summary in every(50, all_small_summaries()):
            for many in ROWS:
                if many != summary.many:
                    for row in every(20, ROWS[many]):
                        self.assertIs(leaves(row, summary), False)

    def test_kept_from(self):
        for many in range(1, 6):
            for turn, row in enumerate(ROWS[many]):
                for length in range(many + 1):
                    for ranks in combinations(range(1, many + 1), length):
                        entries = tuple((row[rank - 1], rank, rank) for rank in ranks)
                        with self.subTest(row=row, ranks=ranks):
                            self.assertEqual(kept_from(shuffled(row, turn), ranks), Summary(many, entries))


class Pairs(unittest.TestCase):

    def judge(self, one, other, rows_of_one, rows_of_other):
        if not rows_of_one:
            for function in (within, lacking_row):
                self.assertIs(error_class(function, one, other), NoRow)
            return "no row"
        row = lacking_row(one, other)
        expected = rows_of_one <= rows_of_other
        self.assertIs(within(one, other), expected)
        if expected:
            self.assertIsNone(row)
        else:
            self.assertEqual((type(row), len(row), list(row)), (tuple, one.many, sorted(row)))
            self.assertTrue(places(row, one.entries))
            self.assertFalse(places(row, other.entries))
        return "within" if expected else "not within"

    def judge_all(self, many, summaries):
        # Rows of these numbers are enough: before, between and behind the values stands another one.
        sets = [{row for row, _ in leaving(summary, ROWS[many])} for summary in summaries]
        told = {"within": 0, "not within": 0, "no row": 0}
        for one, rows_of_one in zip(summaries, sets):
            for other, rows_of_other in zip(summaries, sets):
                with self.subTest(one=one.entries, other=other.entries):
                    told[self.judge(one, other, rows_of_one, rows_of_other)] += 1
        self.assertGreater(min(told.values()), 10)

    def lots(self, many, steps):
        """Summaries without entries, with one, and so on: every step-th of each length."""
        return [summary for length, step in enumerate(steps) for summary in every(step, small_summaries(many, length))]

    def test_of_two(self):
        self.judge_all(2, self.lots(2, (1, 1, 1)))

    def test_of_three(self):
        self.judge_all(3, self.lots(3, (1, 1, 3, 37)))

    def test_of_four(self):
        self.judge_all(4, self.lots(4, (1, 3, 17, 151)))

    def test_of_five(self):
        self.judge_all(5, self.lots(5, (1, 5, 41, 487)))

    def test_unlike_counts(self):
        for one in self.lots(3, (1, 1, 29)):
            for other in self.lots(2, (1, 1, 7)) + self.lots(4, (1, 7, 97)):
                for first, second in ((one, other), (other, one)):
                    found = leaving(first, ROWS[first.many])
                    if found:
                        self.assertIs(within(first, second), False)
                        self.assertTrue(places(lacking_row(first, second), first.entries))


if __name__ == "__main__":
    unittest.main()
