"""The package as a folder: what stands where, and the sizes that ../shared/LANGUAGE.md allows."""

import ast
import os
import unittest

ROOT = os.path.dirname(os.path.dirname(os.path.abspath(__file__)))
PACKAGE = os.path.join(ROOT, "shortranks")
INTERFACE = {
    "errors.py": ("RankError", "BadCount", "BadEntries", "BadSummary", "NoRow", "BadRank", "BadValue", "NoEntry",
                  "BadIndex", "BadError", "Full", "BadRow", "TooLong", "BadRanks", "BadParts", "BadTold",
                  "InvalidText"),
    "summaries.py": ("Summary", "tightened"),
    "asking.py": ("values_at", "below", "up_to", "answer", "error_at", "worst"),
    "changing.py": ("without", "put_in", "joined", "fewest"),
    "rows.py": ("leaves", "row_for", "kept_from"),
    "pairs.py": ("within", "lacking_row"),
    "counting.py": ("count_rows",),
    "fixed.py": ("row_with", "can_have"),
    "keepers.py": ("Keeper",),
    "texts.py": ("write_summary", "read_summary"),
}
# What the language allows to be imported from elsewhere, as far as it is used.
LIBRARY = {"itertools": {"combinations"}, "math": {"comb"}}


def files():
    return sorted(name for name in os.listdir(PACKAGE) if name != "__pycache__")


def text_of(name):
    with open(os.path.join(PACKAGE, name), "rb") as file:
        return file.read()


class Layout(unittest.TestCase):

    def test_only_python_files(self):
        for name in files():
            self.assertRegex(name, r"\A[a-z0-9_]+\.py\Z")
        self.assertIn("__init__.py", files())

    def test_names_are_defined_where_the_interface_lists_them(self):
        for name, wanted in INTERFACE.items():
            tree = ast.parse(text_of(name))
            defined = [node.name for node in tree.body if isinstance(node, (ast.FunctionDef, ast.ClassDef))]
            for word in wanted:
                self.assertEqual(defined.count(word), 1, word)

    def test_only_the_package_and_told_functions_are_imported(self):
        for name in files():
            for node in ast.walk(ast.parse(text_of(name))):
                self.assertNotIsInstance(node, ast.Import)
                if isinstance(node, ast.ImportFrom):
                    self.assertTrue(all(alias.asname is None for alias in node.names))
                    if node.module in LIBRARY:
                        self.assertLessEqual({alias.name for alias in node.names}, LIBRARY[node.module])
                    else:
                        self.assertRegex(node.module, r"\Ashortranks\.[a-z]+\Z")

    def test_sizes_and_characters(self):
        for name in files():
            text = text_of(name)
            lines = text.decode("ascii").split("\n")
            self.assertLessEqual(len(lines), 399)
            self.assertLessEqual(max(len(line) for line in lines), 120)
            self.assertTrue(all(byte == 10 or 32 <= byte <= 126 for byte in text))
            for node in ast.walk(ast.parse(text)):
                if isinstance(node, ast.FunctionDef):
                    self.assertLessEqual(node.end_lineno - node.lineno + 1, 40)


if __name__ == "__main__":
    unittest.main()
