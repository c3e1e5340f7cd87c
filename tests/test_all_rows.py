"""Points 3, 4 and 5 judged against all rows of small numbers, all entries and all ranks."""

import unittest

from shortranks.asking import answer, below, error_at, up_to, values_at, worst
from shortranks.errors import NoRow
from shortranks.summaries import Summary, tightened
from tests.any_values import error_class
from tests.small_rows import NUMBERS, all_rows, all_small_summaries, leaving

ROWS = {many: all_rows(many) for many in range(1, 6)}


def allowed(bounds):
    """The numbers that may stand between two bounds, as values_at gives them."""
    least, greatest = bounds
    return {number for number in NUMBERS
            if (least is None or least <= number) and (greatest is None or number <= greatest)}


def seen_bounds(counts):
    return min(counts), max(counts)


def errors_of_all(entries, many):
    """For each rank the errors of all entries, as point 5 tells."""
    return [[max(abs(rank - low), abs(rank - high)) for _, low, high in entries] for rank in range(1, many + 1)]


class SmallSummaries(unittest.TestCase):

    def judge_no_row(self, summary):
        self.assertIsNone(tightened(summary))
        for function in (values_at, below, up_to, answer, error_at):
            self.assertIs(error_class(function, summary, 1), NoRow)
        self.assertIs(error_class(worst, summary), NoRow)

    def judge_ranks(self, summary, found):
        placed = [ranks for _, several in found for ranks in several]
        expected = tuple((entry[0], min(ranks), max(ranks)) for entry, ranks in zip(summary.entries, zip(*placed)))
        self.assertEqual(tightened(summary), Summary(summary.many, expected))
        return expected

    def judge_values(self, summary, rows):
        for rank in range(1, summary.many + 1):
            self.assertEqual({row[rank - 1] for row in rows}, allowed(values_at(summary, rank)))
        # Rows of these numbers alone tell all of what is possible only for values between them.
        for value in NUMBERS[1:]:
            self.assertEqual(seen_bounds([sum(number < value for number in row) for row in rows]),
                             below(summary, value))
        for value in NUMBERS[:-1]:
            self.assertEqual(seen_bounds([sum(number <= value for number in row) for row in rows]),
                             up_to(summary, value))

    def judge_errors(self, summary, entries):
        errors = errors_of_all(entries, summary.many)
        for rank, several in enumerate(errors, start=1):
            self.assertEqual(error_at(summary, rank), min(several))
            self.assertEqual(answer(summary, rank), several.index(min(several)))
        least = [min(several) for several in errors]
        self.assertEqual(worst(summary), (max(least), least.index(max(least)) + 1))

    def test_all(self):
        possible = impossible = 0
        for summary in all_small_summaries():
            found = leaving(summary, ROWS[summary.many])
            with self.subTest(many=summary.many, entries=summary.entries):
                if not found:
                    impossible += 1
                    self.judge_no_row(summary)
                    continue
                possible += 1
                entries = self.judge_ranks(summary, found)
                self.judge_values(summary, [row for row, _ in found])
                if entries:
                    self.judge_errors(summary, entries)
        self.assertGreater(possible, 500)
        self.assertGreater(impossible, 100)


class ManyRanks(unittest.TestCase):
    """Greater summaries: worst against every entry and every rank."""

    def numbers(self, state):
        # A row of numbers that is the same in each run.
        while True:
            state = (state * 1103515245 + 12345) % 2 ** 31
            yield state // 2 ** 16

    def made(self, drawn, most):
        many = 1 + next(drawn) % most
        length = 1 + next(drawn) % 12
        entries = []
        for value in range(length):
            # Intervals around a rising rank, so that most of the summaries have rows.
            middle = 1 + (value * many) // length
            low = max(1, middle - next(drawn) % 7)
            high = min(many, middle + next(drawn) % 7)
            entries.append((value, low, high))
        return Summary(many, tuple(entries))

    def by_the_words(self, summary):
        """The tightened entries, by the sentence of point 3, one after the other."""
        lows = [low for _, low, _ in summary.entries]
        highs = [high for _, _, high in summary.entries]
        for index in range(1, len(lows)):
            lows[index] = max(lows[index], lows[index - 1] + 1)
        for index in range(len(highs) - 2, -1, -1):
            highs[index] = min(highs[index], highs[index + 1] - 1)
        if any(low > high for low, high in zip(lows, highs)):
            return None
        return tuple((entry[0], low, high) for entry, low, high in zip(summary.entries, lows, highs))

    def test_drawn_summaries(self):
        drawn = self.numbers(7)
        judged = 0
        for most in (6, 15, 40, 90) * 100:
            summary = self.made(drawn, most)
            entries = self.by_the_words(summary)
            with self.subTest(many=summary.many, entries=summary.entries):
                tight = tightened(summary)
                self.assertEqual(None if tight is None else tight.entries, entries)
                if entries is not None:
                    judged += 1
                    SmallSummaries.judge_errors(self, summary, entries)
        self.assertGreater(judged, 200)


if __name__ == "__main__":
    unittest.main()
