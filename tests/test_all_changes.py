"""Points 6 and 7 judged against all rows of small numbers, and all lots of entries."""

import unittest
from itertools import combinations

from shortranks.changing import fewest, joined, put_in, without
from shortranks.errors import NoRow
from shortranks.summaries import Summary, tightened
from tests.any_values import error_class
from tests.small_rows import NUMBERS, all_rows, all_small_summaries, leaving, places, small_summaries

ROWS = {many: all_rows(many) for many in range(1, 7)}


def with_one_more(row, number):
    return tuple(sorted(row + (number,)))


def worst_error(entries, many):
    """The worst error of entries, by all ranks and the words of point 5."""
    return max(min(max(abs(rank - low), abs(rank - high)) for _, low, high in entries)
               for rank in range(1, many + 1))


def least_lots(entries, many):
    """For each error up to many what fewest gives, by a look at the worst errors of all lots of entries."""
    lots = [(worst_error([entries[index] for index in lot], many), lot)
            for size in range(1, len(entries) + 1) for lot in combinations(range(len(entries)), size)]
    return [min(((len(lot), lot) for worst, lot in lots if worst <= error), default=(0, None))[1]
            for error in range(many + 1)]


class LeftOut(unittest.TestCase):

    def judge(self, summary):
        for index in range(len(summary)):
            rest = without(summary, index)
            kept = [entry for place, entry in enumerate(summary.entries) if place != index]
            self.assertEqual((rest.many, rest.entries), (summary.many, tuple(kept)))
        tight = tightened(summary)
        errors = range(summary.many + 1)
        if tight is None:
            self.assertEqual([error_class(fewest, summary, error) for error in errors], [NoRow] * len(errors))
            return 0
        self.assertEqual([fewest(summary, error) for error in errors], least_lots(tight.entries, summary.many))
        return 1

    def test_small_summaries(self):
        for summary in all_small_summaries():
            with self.subTest(many=summary.many, entries=summary.entries):
                self.judge(summary)

    def test_greater_summaries(self):
        judged = 0
        for step in range(60):
            many = 7 + step % 17
            length = 3 + step % 5
            ranks = sorted((step * 5 + place * (step % 11 + 1)) % many + 1 for place in range(length))
            entries = tuple((rank, max(1, rank - (rank * step) % 4), min(many, rank + (rank + step) % 5))
                            for rank in ranks)
            with self.subTest(many=many, entries=entries):
                judged += self.judge(Summary(many, entries))
        self.assertGreater(judged, 20)

    def test_what_is_left_of_a_tightened_summary_is_tight(self):
        for summary in list(small_summaries(4, 2)) + list(small_summaries(5, 2)):
            tight = tightened(summary)
            if tight is not None:
                for index in (0, 1):
                    rest = without(tight, index)
                    self.assertEqual(tightened(rest), rest)


class OneMore(unittest.TestCase):

    def judge(self, summary, number, found):
        result = put_in(summary, number)
        # Exactly the rows with the number leave the summary with the number.
        rows = {with_one_more(row, number) for row, _ in found}
        self.assertEqual({row for row, _ in leaving(result, ROWS[result.many])}, rows)
        # Behind all entries that are not greater, and with nothing left to be tightened.
        values = [value for value, _, _ in summary.entries]
        place = sum(value <= number for value in values)
        self.assertEqual([value for value, _, _ in result.entries], values[:place] + [number] + values[place:])
        self.assertEqual(tightened(result), result)

    def test_small_summaries(self):
        judged = 0
        for many, longest in ((1, 1), (2, 2), (3, 2), (4, 1), (5, 1)):
            for length in range(longest + 1):
                for summary in small_summaries(many, length):
                    found = leaving(summary, ROWS[many])
                    for number in NUMBERS:
                        with self.subTest(many=many, entries=summary.entries, number=number):
                            if found:
                                judged += 1
                                self.judge(summary, number, found)
                            else:
                                self.assertIs(error_class(put_in, summary, number), NoRow)
        self.assertGreater(judged, 1000)


class Together(unittest.TestCase):

    def ranks_together(self, one, other, found, others):
        """For each entry, those of one first, all its ranks in the rows of both together."""
        ranks = [set() for _ in range(len(one) + len(other))]
        for row, several in found:
            for row_of_other, several_of_other in others:
                for index, (value, _, _) in enumerate(one.entries):
                    before = sum(number < value for number in row_of_other)
                    ranks[index].update(chosen[index] + before for chosen in several)
                for index, (value, _, _) in enumerate(other.entries):
                    before = sum(number <= value for number in row)
                    ranks[len(one) + index].update(chosen[index] + before for chosen in several_of_other)
        return ranks

    def judge(self, one, other, found, others):
        result = joined(one, other)
        self.assertEqual(result.many, one.many + other.many)
        ranks = self.ranks_together(one, other, found, others)
        entries = [(entry[0], min(each), max(each)) for entry, each in zip(one.entries + other.entries, ranks)]
        self.assertEqual(result.entries, tuple(sorted(entries, key=lambda entry: entry[0])))
        for row, _ in found:
            for row_of_other, _ in others:
                self.assertTrue(places(sorted(row + row_of_other), result.entries))

    def some_summaries(self, many, longest, step):
        """Of each length every step-th summary, each with the rows that leave it; those without any are left out."""
        chosen = [summary for length in range(longest + 1)
                  for number, summary in enumerate(small_summaries(many, length)) if number % step == 0]
        found = [(summary, leaving(summary, ROWS[many])) for summary in chosen]
        return [(summary, rows) for summary, rows in found if rows]

    def test_small_summaries(self):
        judged = 0
        for first, second in (((1, 1, 1), (3, 2, 3)), ((3, 2, 11), (2, 2, 1)), ((2, 2, 1), (3, 2, 13)),
                              ((3, 3, 37), (3, 2, 23))):
            others = self.some_summaries(*second)
            for one, found in self.some_summaries(*first):
                for other, found_of_other in others:
                    judged += 1
                    with self.subTest(one=one.entries, other=other.entries):
                        self.judge(one, other, found, found_of_other)
        self.assertGreater(judged, 1000)


if __name__ == "__main__":
    unittest.main()
