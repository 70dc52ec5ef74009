"""The error classes of the interface, and how refusals are caught."""

import unittest

from nearword import errors
from nearword.changes import done, led
from nearword.errors import BadChange, BadMost, BadWord, Full, NearError
from nearword.near import near
from nearword.tables import way
from nearword.tree import MOST_WORDS, Tree
from nearword.words import LETTERS


class ErrorClassesTest(unittest.TestCase):
    def test_near_error_is_straight_under_value_error(self):
        self.assertEqual(NearError.__bases__, (ValueError,))

    def test_each_other_one_is_straight_under_near_error(self):
        for kind in (BadWord, BadChange, BadMost, Full):
            with self.subTest(kind=kind.__name__):
                self.assertEqual(kind.__bases__, (NearError,))

    def test_all_five_are_defined_in_errors(self):
        for name in ("NearError", "BadWord", "BadChange", "BadMost", "Full"):
            with self.subTest(name=name):
                kind = getattr(errors, name)
                self.assertEqual((kind.__name__, kind.__module__), (name, "nearword.errors"))

    def test_none_of_the_four_catches_another(self):
        kinds = (BadWord, BadChange, BadMost, Full)
        for kind in kinds:
            for other in kinds:
                if kind is not other:
                    self.assertFalse(issubclass(kind, other))


class CaughtTest(unittest.TestCase):
    def test_a_refusal_is_caught_by_each_of_its_bases(self):
        for base in (BadChange, NearError, ValueError):
            with self.subTest(base=base.__name__):
                with self.assertRaises(base):
                    done("cat", ("cut", 3))
                with self.assertRaises(base):
                    led("cat", [("cut", 0), None])

    def test_no_word_is_caught_by_each_of_its_bases(self):
        for base in (BadWord, NearError, ValueError):
            for call in (Tree().put, Tree().begun, lambda word: way(word, ""), lambda word: near(Tree(), word, 1)):
                with self.assertRaises(base):
                    call("Cat")

    def test_no_most_is_caught_by_each_of_its_bases(self):
        for base in (BadMost, NearError, ValueError):
            with self.assertRaises(base):
                near(Tree(), "cat", 25)

    def test_full_is_caught_by_each_of_its_bases(self):
        tree = Tree()
        for at in range(MOST_WORDS):
            tree.put(LETTERS[at // 26] + LETTERS[at % 26])
        self.assertEqual(tree.many(), MOST_WORDS)
        for base in (Full, NearError, ValueError):
            with self.assertRaises(base):
                tree.put("z")

    def test_each_class_can_be_raised_and_caught(self):
        for kind in (NearError, BadWord, BadChange, BadMost, Full):
            for base in (kind, NearError, ValueError):
                with self.assertRaises(base):
                    raise kind("why")


if __name__ == "__main__":
    unittest.main()
