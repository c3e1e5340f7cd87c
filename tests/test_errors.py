"""The interface, heading shortranks/errors.py."""

import unittest

from shortranks import errors

WITHOUT_FIELDS = ("BadCount", "BadSummary", "NoRow", "BadRank", "BadValue", "NoEntry", "BadIndex",
                  "BadError", "Full", "BadRow", "TooLong", "BadRanks", "BadParts")
WITH_INDEX = ("BadEntries", "BadTold")


class Errors(unittest.TestCase):

    def test_base_is_directly_under_value_error(self):
        self.assertEqual(errors.RankError.__bases__, (ValueError,))
        self.assertIsInstance(errors.RankError(), ValueError)

    def test_all_others_are_directly_under_the_base(self):
        for name in WITHOUT_FIELDS + WITH_INDEX + ("InvalidText",):
            with self.subTest(name=name):
                self.assertEqual(getattr(errors, name).__bases__, (errors.RankError,))

    def test_those_without_fields_take_nothing(self):
        for name in WITHOUT_FIELDS + ("RankError",):
            with self.subTest(name=name):
                made = getattr(errors, name)
                self.assertIsInstance(made(), errors.RankError)
                with self.assertRaises(TypeError):
                    made(1)

    def test_index(self):
        for name in WITH_INDEX:
            for index in (None, 0, 11):
                with self.subTest(name=name, index=index):
                    self.assertEqual(getattr(errors, name)(index).index, index)

    def test_line_and_word(self):
        error = errors.InvalidText(2, 3)
        self.assertEqual((error.line, error.word), (2, 3))

    def test_errors_are_equal_to_nothing_of_another_kind(self):
        for other in (errors.BadRank(), None, 3, (), ValueError()):
            self.assertFalse(errors.BadCount() == other)


if __name__ == "__main__":
    unittest.main()
