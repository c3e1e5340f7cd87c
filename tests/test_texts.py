"""Point 10: write_summary, read_summary."""

import unittest

from shortranks.errors import BadSummary, InvalidText
from shortranks.summaries import Summary
from shortranks.texts import read_summary, write_summary
from tests.any_values import HUGE, error_class, error_of, is_summary, others
from tests.small_rows import small_summaries

TOLD = Summary(10, ((5, 2, 4), (9, 6, 8)))
TWELVE = Summary(20, tuple((index, index + 1, index + 9) for index in range(12)))
LONG = "1" * 10000
# No numbers as Python writes them, and no integers at all.
NO_NUMBERS = (
    "+3", "03", "00", "-0", "-03", "--3", "-", "+", "3-", "3.", "3.0", "3e0", "1_0", "0x3", "0b1", "3L", "x", "None",
    "True", "count", "3,", "(3", "\u0663", "\u00b3", "\uff13", "3\u00a0", "\u22123", "3\t", "\t3", "3\r", "3\x0b",
    "3\x0c", "3\u2028", "3\u3000", "3\x00", "3\x85", "\ud800", "\ufeff3", LONG, "-" + LONG, "0" * 5000,
)


def noisy(text):
    """The text with spaces at the ends of the lines and further ones between the words."""
    return "\n".join(" " * turn + line.replace(" ", " " * (turn % 4 + 1)) + " " * (2 * turn)
                     for turn, line in enumerate(text.split("\n")))


def some_summaries():
    """Summaries of all sizes, those that no row leaves too."""
    yield from (Summary(1, ()), Summary(HUGE, ()), TOLD, TWELVE, Summary(2, ((1, 1, 1), (2, 1, 1))),
                Summary(HUGE, ((-HUGE, 1, HUGE), (0, HUGE, HUGE), (HUGE, 1, 1))), Summary(3, ((0, 1, 3),) * 12),
                Summary(9, ((-7, 3, 3), (-7, 1, 9), (0, 2, 2))))
    for many, length in ((1, 1), (2, 2), (3, 2)):
        yield from small_summaries(many, length)


class Examples(unittest.TestCase):

    def test_all(self):
        self.assertEqual(write_summary(Summary(10, ((5, 2, 4), (9, 6, 8)))).split("\n"), ["count 10", "5 2 4", "9 6 8"])
        error = error_of(read_summary, "count 10\n5 2 11")
        self.assertEqual((type(error), error.line, error.word), (InvalidText, 2, 3))


class Written(unittest.TestCase):

    def test_lines(self):
        self.assertEqual(write_summary(TOLD), "count 10\n5 2 4\n9 6 8")
        self.assertEqual(write_summary(Summary(1, ())), "count 1")
        self.assertEqual(write_summary(Summary(3, ((-5, 1, 3), (0, 3, 3)))), "count 3\n-5 1 3\n0 3 3")

    def test_nothing_is_tightened_and_no_row_is_asked_for(self):
        self.assertEqual(write_summary(Summary(2, ((1, 1, 1), (2, 1, 1)))), "count 2\n1 1 1\n2 1 1")
        self.assertEqual(write_summary(Summary(9, ((5, 1, 9), (5, 1, 9)))), "count 9\n5 1 9\n5 1 9")

    def test_great_numbers(self):
        zeros = "0" * 30
        self.assertEqual(write_summary(Summary(HUGE, ((-HUGE, 1, HUGE), (HUGE, HUGE, HUGE)))),
                         f"count 1{zeros}\n-1{zeros} 1 1{zeros}\n1{zeros} 1{zeros} 1{zeros}")

    def test_twelve_entries(self):
        self.assertEqual(write_summary(TWELVE), "count 20\n" + "\n".join(f"{n} {n + 1} {n + 9}" for n in range(12)))

    def test_bad_summary(self):
        for value in others(is_summary) + ["count 10", ["count 10"]]:
            with self.subTest(value=value):
                self.assertIs(error_class(write_summary, value), BadSummary)


class ReadBack(unittest.TestCase):

    def test_equal_summaries(self):
        for summary in some_summaries():
            with self.subTest(many=summary.many, entries=summary.entries):
                text = write_summary(summary)
                self.assertIs(type(text), str)
                for each in (text, noisy(text), noisy(noisy(text)), f"  {text}   "):
                    read = read_summary(each)
                    self.assertIs(type(read), Summary)
                    self.assertEqual((read.many, read.entries), (summary.many, summary.entries))
                    self.assertTrue(read == summary)
                    self.assertEqual(write_summary(read), text)

    def test_spaces(self):
        self.assertEqual(read_summary("   count    10 \n 5   2 4\n9 6      8    "), TOLD)
        self.assertEqual(read_summary(" " * 5000 + "count" + " " * 5000 + "1" + " " * 5000), Summary(1, ()))


class Invalid(unittest.TestCase):

    def assert_invalid(self, text, line, word):
        with self.subTest(text=text[:80]):
            error = error_of(read_summary, text)
            self.assertIs(type(error), InvalidText)
            self.assertEqual((error.line, error.word), (line, word))
            self.assertEqual((type(error.line), type(error.word)), (int, int))
            error = error_of(read_summary, noisy(text))
            self.assertEqual((type(error), error.line, error.word), (InvalidText, line, word))

    def test_empty_texts_and_lines_without_words(self):
        for text in ("", " ", "     ", "\n", "\n\n", "\ncount 3", "  \ncount 3", " \n"):
            self.assert_invalid(text, 1, 1)
        for text in ("count 3\n", "count 3\n  ", "count 3\n\n", "count 3\n\n5 1 1", "count 3\n \n5 1 1"):
            self.assert_invalid(text, 2, 1)
        for text in ("count 3\n5 1 1\n", "count 3\n5 1 1\n   ", "count 3\n5 1 1\n\n6 1 1"):
            self.assert_invalid(text, 3, 1)

    def test_the_first_word(self):
        for word in ("Count", "COUNT", "counts", "coun", "c", "3", "count3", "count:", "\tcount", "count\t", "count\t3",
                     "\ufeffcount", "count\u00a03", "count\r"):
            self.assert_invalid(word, 1, 1)
            self.assert_invalid(f"{word} 3", 1, 1)
            self.assert_invalid(f"{word} x 5\nx", 1, 1)
        self.assert_invalid("3 count", 1, 1)
        self.assert_invalid("5 1 1\ncount 3", 1, 1)

    def test_the_count(self):
        for word in NO_NUMBERS + ("0", "-1", str(HUGE + 1), str(-HUGE), "9" * 31, "9" * 32, str(10 ** 60)):
            self.assert_invalid(f"count {word}", 1, 2)
            self.assert_invalid(f"count {word} 3", 1, 2)
            self.assert_invalid(f"count {word}\n5 1 1\nx", 1, 2)
        for text in ("count", " count ", "count\n5 1 1", "count\n3"):
            self.assert_invalid(text, 1, 2)

    def test_more_words_than_two(self):
        for text in ("count 3 3", "count 3 x", "count 3 x y z", "count 3 5 1 1", "count 3 count 3\n5 9 9"):
            self.assert_invalid(text, 1, 3)

    def test_a_value(self):
        for word in NO_NUMBERS + (str(HUGE + 1), str(-HUGE - 1), "9" * 31, "-" + "9" * 31, str(10 ** 60)):
            self.assert_invalid(f"count 3\n{word} 1 1", 2, 1)
            self.assert_invalid(f"count 3\n{word}", 2, 1)
            self.assert_invalid(f"count 3\n{word} 9 9 9", 2, 1)
            self.assert_invalid(f"count 3\n5 1 1\n{word} 1 1\nx", 3, 1)
        for word in (4, 0, -5, -HUGE):
            self.assert_invalid(f"count 3\n5 1 1\n{word} 1 1", 3, 1)
            self.assert_invalid(f"count 3\n5 1 1\n5 1 1\n{word} 9 9", 4, 1)
        self.assert_invalid(f"count 3\n{HUGE} 1 1\n{HUGE - 1} 1 1", 3, 1)
        self.assert_invalid("count 3\n-5 1 1\n-6 1 1", 3, 1)
        self.assert_invalid("count 3\ncount 3", 2, 1)

    def test_a_low(self):
        for word in NO_NUMBERS + ("0", "-1", "4", str(HUGE), str(10 ** 60)):
            self.assert_invalid(f"count 3\n5 {word} 3", 2, 2)
            self.assert_invalid(f"count 3\n5 {word}", 2, 2)
            self.assert_invalid(f"count 3\n5 {word} 9 9", 2, 2)
            self.assert_invalid(f"count 3\n5 1 1\n5 {word} 3\n4", 3, 2)
        self.assert_invalid(f"count {HUGE}\n5 {HUGE + 1} {HUGE + 1}", 2, 2)

    def test_a_high(self):
        for word in NO_NUMBERS + ("0", "-1", "1", "4", str(HUGE), str(10 ** 60)):
            self.assert_invalid(f"count 3\n5 2 {word}", 2, 3)
            self.assert_invalid(f"count 3\n5 2 {word} 9", 2, 3)
            self.assert_invalid(f"count 3\n5 1 1\n5 2 {word}\n4", 3, 3)
        self.assert_invalid(f"count {HUGE}\n5 {HUGE} {HUGE - 1}", 2, 3)
        self.assert_invalid(f"count {HUGE}\n5 {HUGE} {HUGE + 1}", 2, 3)

    def test_lines_that_end_too_early(self):
        self.assert_invalid("count 3\n5", 2, 2)
        self.assert_invalid("count 3\n5 1", 2, 3)
        self.assert_invalid("count 3\n5 1\n6 1 1", 2, 3)
        self.assert_invalid("count 3\n5 1 1\n6 2", 3, 3)
        self.assert_invalid("count 3\n5\n1\n1", 2, 2)

    def test_more_words_than_three(self):
        for more in ("1", "x", "4 5 6", LONG):
            self.assert_invalid(f"count 3\n5 1 1 {more}", 2, 4)
            self.assert_invalid(f"count 3\n5 1 1\n6 2 2 {more}\nx", 3, 4)

    def test_other_blanks_are_characters_of_words(self):
        for blank in ("\t", "\r", "\x0b", "\x0c", "\x1c", "\x85", "\u00a0", "\u2028", "\u3000"):
            self.assert_invalid(f"count{blank}3", 1, 1)
            self.assert_invalid(f"count 3{blank}\n5 1 1", 1, 2)
            self.assert_invalid(f"count 3{blank}5 1 1", 1, 2)
            self.assert_invalid(f"count 3 {blank}", 1, 3)
            self.assert_invalid(f"count 3\n{blank}", 2, 1)
            self.assert_invalid(f"count 3\n5 1{blank}1", 2, 2)
            self.assert_invalid(f"count 3\n5 1 1{blank}", 2, 3)
            self.assert_invalid(f"count 3\n5 1 1 {blank}", 2, 4)

    def test_a_thirteenth_entry(self):
        twelve = write_summary(TWELVE)
        self.assertEqual(read_summary(twelve), TWELVE)
        for more in ("11 12 20", "11 12 20\n11 12 20", "", "x", "  ", "0 1 1", "11 12 20 3", "11 99", "\n"):
            self.assert_invalid(f"{twelve}\n{more}", 14, 1)
        # The first line that cannot stand there is named, whatever comes behind.
        self.assert_invalid(twelve.replace("11 12 20", "11 12 21") + "\n11 12 20", 13, 3)

    def test_the_first_line_is_named(self):
        self.assert_invalid("count 3\n5 1 4\n4 1 1\nx", 2, 3)
        self.assert_invalid("count 3\n5 1 3\n4 1 1\nx", 3, 1)
        self.assert_invalid("count 3\n5 1 3\n6 1 1\nx", 4, 1)

    def test_any_way_to_spoil_a_text(self):
        # One word of a text in turn is replaced, left out at the end of its line, or followed by another.
        lines = ["count 9", "-3 2 4", "0 1 9", "7 5 6"]
        for place, line in enumerate(lines, start=1):
            words = line.split(" ")
            for word in range(1, len(words) + 1):
                for changed in (words[:word - 1] + ["?"] + words[word:], words[:word - 1]):
                    text = "\n".join(lines[:place - 1] + [" ".join(changed)] + lines[place:])
                    self.assert_invalid(text, place, word)
            text = "\n".join(lines[:place - 1] + [line + " 1"] + lines[place:])
            self.assert_invalid(text, place, len(words) + 1)


if __name__ == "__main__":
    unittest.main()
