import importlib
import inspect
import unittest

FUNCTIONS = [
    ("stairs", "is_table", ["lines"]),
    ("stairs", "is_marked", ["lines"]),
    ("stairs", "read_out", ["lines"]),
    ("stairs", "columns", ["lines"]),
    ("stairs", "corners", ["shape"]),
    ("bumping", "bumped", ["lines", "number"]),
    ("bumping", "unbumped", ["lines", "last"]),
    ("pairs", "both", ["numbers"]),
    ("pairs", "numbers_of", ["lines", "marks"]),
    ("pairs", "same_table", ["one", "other"]),
    ("rising", "longest_rising", ["numbers"]),
    ("rising", "longest_falling", ["numbers"]),
    ("sliding", "slid", ["marks"]),
    ("sliding", "emptied", ["marks"]),
    ("counting", "how_many_marks", ["shape"]),
    ("book", "answers", ["deeds"]),
    ("book", "Book", []),
]

METHODS = [("put", ["number"]), ("undo", []), ("look", [])]


class Interface(unittest.TestCase):
    def test_functions_and_their_arguments(self):
        for module, name, arguments in FUNCTIONS:
            with self.subTest(module=module, name=name):
                found = getattr(importlib.import_module("stairtable." + module), name)
                self.assertEqual(list(inspect.signature(found).parameters), arguments)

    def test_methods_and_their_arguments(self):
        book = importlib.import_module("stairtable.book").Book()
        for name, arguments in METHODS:
            with self.subTest(name=name):
                self.assertEqual(list(inspect.signature(getattr(book, name)).parameters), arguments)


if __name__ == "__main__":
    unittest.main()
