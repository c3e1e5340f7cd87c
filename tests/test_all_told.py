"""Points 12 and 13 judged against all rows of small numbers."""

import unittest
from itertools import combinations, combinations_with_replacement
from random import Random

from shortranks.counting import count_rows
from shortranks.errors import NoRow
from shortranks.fixed import can_have, row_with
from shortranks.summaries import Summary, tightened
from tests.any_values import error_class
from tests.small_rows import NUMBERS, all_rows, all_small_summaries, has_places, leaving, small_summaries

ROWS = {many: all_rows(many) for many in range(1, 6)}
ENDS = [(least, greatest) for least in range(1, 7) for greatest in range(least - 1, 7)]
# Rows of the greatest length, of few numbers, can still be looked at one by one.
FEW = (2, 3, 5, 6)
LONG_ROWS = list(combinations_with_replacement(FEW, 40))


def between(rows, least, greatest):
    """How many ascending rows have all their numbers from least to greatest."""
    return sum(least <= row[0] and row[-1] <= greatest for row in rows)


def with_told(rows, told):
    return [row for row in rows if all(row[rank - 1] == value for rank, value in told)]


def ranks_of(rows, value):
    """The ranks at which some row has a value."""
    return sorted({rank for row in rows for rank, number in enumerate(row, start=1) if number == value})


def all_told(many, length):
    """All tuples of told numbers of that length, from NUMBERS."""
    for ranks in combinations(range(1, many + 1), length):
        for values in combinations_with_replacement(NUMBERS, length):
            yield tuple(zip(ranks, values))


class Counted(unittest.TestCase):

    def test_small_summaries(self):
        for summary in all_small_summaries():
            rows = [row for row, _ in leaving(summary, ROWS[summary.many])]
            with self.subTest(many=summary.many, entries=summary.entries):
                if rows:
                    self.assertEqual(count_rows(summary, 1, 6), len(rows))
                    self.assertEqual(count_rows(summary, 2, 5), between(rows, 2, 5))
                else:
                    self.assertIs(error_class(count_rows, summary, 1, 6), NoRow)

    def test_all_ends(self):
        for many, length in ((1, 1), (2, 1), (2, 2), (3, 1), (3, 2), (4, 1), (5, 1)):
            for summary in small_summaries(many, length):
                rows = [row for row, _ in leaving(summary, ROWS[many])]
                if rows:
                    with self.subTest(many=many, entries=summary.entries):
                        self.assertEqual([count_rows(summary, *ends) for ends in ENDS],
                                         [between(rows, *ends) for ends in ENDS])


class Told(unittest.TestCase):

    def judge(self, summary, rows, told):
        fitting = with_told(rows, told)
        row = row_with(summary, told)
        if fitting:
            self.assertEqual((type(row), len(row), list(row)), (tuple, summary.many, sorted(row)))
            self.assertTrue(has_places(row, summary.entries))
            self.assertEqual(with_told([row], told), [row])
        else:
            self.assertIsNone(row)
        # Rows of these numbers tell all: before, between and behind the values stands another one.
        for value in NUMBERS:
            self.assertEqual(can_have(summary, told, value), ranks_of(fitting, value))
        return bool(fitting)

    def judge_all(self, summaries, lots, tries):
        """Judge each summary with so many lots of told numbers, others for each; count those with and without a row."""
        seen = {True: 0, False: 0}
        step = max(1, len(lots) // tries)
        for turn, summary in enumerate(summaries):
            rows = [row for row, _ in leaving(summary, ROWS[summary.many])]
            if not rows:
                self.assertIs(error_class(row_with, summary, ()), NoRow)
                self.assertIs(error_class(can_have, summary, (), 1), NoRow)
                continue
            for told in lots[turn % step::step]:
                with self.subTest(many=summary.many, entries=summary.entries, told=told):
                    seen[self.judge(summary, rows, told)] += 1
        return seen

    def lots(self, many):
        return [told for length in range(many + 1) for told in all_told(many, length)]

    def test_some_told_numbers(self):
        for many, length, step, tries in ((3, 2, 1, 20), (3, 3, 5, 20), (4, 1, 1, 60), (4, 2, 3, 20), (4, 3, 41, 20),
                                          (5, 1, 1, 60), (5, 2, 7, 20)):
            summaries = list(small_summaries(many, length))[::step]
            seen = self.judge_all(summaries, self.lots(many), tries)
            self.assertGreater(min(seen.values()), 50)

    def test_all_told_numbers(self):
        for many, length in ((1, 0), (1, 1), (2, 0), (2, 1), (2, 2), (3, 0), (3, 1), (4, 0)):
            lots = self.lots(many)
            seen = self.judge_all(list(small_summaries(many, length)), lots, len(lots))
            self.assertGreater(seen[True], 5)


class LongRows(unittest.TestCase):
    """Forty numbers and up to twelve entries: rows of four different numbers are looked at, one by one."""

    def drawn(self, chance, length):
        # The ranks of an entry are around one of a row of the values, so that most summaries have rows.
        values = sorted(chance.choice(FEW) for _ in range(length))
        middles = sorted(chance.sample(range(1, 41), length))
        spread = chance.choice((0, 3, 8))
        return Summary(40, tuple((value, max(1, middle - chance.randint(0, spread)),
                                  min(40, middle + chance.randint(0, spread)))
                                 for value, middle in zip(values, middles)))

    def told(self, chance, rows):
        """Told numbers, most of them from a row that leaves the summary."""
        row = list(chance.choice(rows))
        if chance.random() < 0.4:
            row = list(chance.choice(LONG_ROWS))
        ranks = sorted(chance.sample(range(1, 41), chance.choice((1, 2, 4, 12))))
        return tuple((rank, row[rank - 1]) for rank in ranks)

    def judge(self, summary, rows, told):
        fitting = with_told(rows, told)
        row = row_with(summary, told)
        self.assertEqual(row is not None, bool(fitting))
        if fitting:
            self.assertEqual((len(row), list(row), with_told([row], told)), (40, sorted(row), [row]))
            self.assertTrue(has_places(row, summary.entries))
        for value in FEW:
            self.assertEqual(can_have(summary, told, value), ranks_of(fitting, value))
        return bool(fitting)

    def test_drawn_summaries(self):
        chance = Random(13)
        seen = {True: 0, False: 0}
        for length in (0, 1, 1, 2, 2, 3, 4, 5, 6, 8, 10, 11, 12, 12, 12, 12):
            summary = self.drawn(chance, length)
            with self.subTest(entries=summary.entries):
                rows = [row for row in LONG_ROWS if has_places(row, summary.entries)]
                self.assertEqual(tightened(summary) is not None, bool(rows))
                if not rows:
                    continue
                # No 4 stands in the rows that are looked at.
                ends = ((2, 3), (5, 6), (2, 2), (6, 6))
                self.assertEqual([count_rows(summary, *each) for each in ends], [between(rows, *each) for each in ends])
                for _ in range(12):
                    seen[self.judge(summary, rows, self.told(chance, rows))] += 1
        self.assertGreater(min(seen.values()), 10)

    def test_drawn_counts(self):
        chance = Random(12)
        three = list(combinations_with_replacement((7, 8, 9), 40))
        judged = 0
        for length in list(range(13)) * 2:
            values = sorted(chance.choice((7, 8, 9)) for _ in range(length))
            spans = self.drawn(chance, length).entries
            entries = tuple((value, low, high) for value, (_, low, high) in zip(values, spans))
            rows = [row for row in three if has_places(row, entries)]
            if rows:
                judged += 1
                with self.subTest(entries=entries):
                    ends = [(least, greatest) for least in (7, 8, 9) for greatest in (7, 8, 9)]
                    self.assertEqual([count_rows(Summary(40, entries), *each) for each in ends],
                                     [between(rows, *each) for each in ends])
        self.assertGreater(judged, 15)


if __name__ == "__main__":
    unittest.main()
