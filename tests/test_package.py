"""The package's files: the interface stands where it is listed, and rules of the language that a glance can check."""

import ast
import inspect
import pathlib
import re
import unittest
import warnings

from nearword import changes, errors, near, tables, tree, words

FOLDER = pathlib.Path(__file__).resolve().parent.parent / "nearword"
FILES = sorted(FOLDER.rglob("*.py"))


def parsed(file):
    return ast.parse(file.read_text(encoding="utf-8"))


def texts(tree):
    """The strings of a file that are no docstrings."""
    docs = []
    for node in ast.walk(tree):
        if isinstance(node, ast.Expr) and isinstance(node.value, ast.Constant):
            docs.append(node.value)
    return [
        node.value for node in ast.walk(tree)
        if isinstance(node, ast.Constant) and isinstance(node.value, str) and node not in docs
    ]


class InterfaceTest(unittest.TestCase):
    def test_defined_in_the_file_that_lists_it(self):
        listed = {
            errors: ("NearError", "BadWord", "BadChange", "BadMost", "Full"),
            words: ("is_word",),
            changes: ("done", "led"),
            tables: ("table", "distance", "way"),
            tree: ("Tree",),
            near: ("near", "looked"),
        }
        for module, names in listed.items():
            for name in names:
                self.assertEqual(getattr(module, name).__module__, module.__name__)

    def test_methods_stand_in_the_class_itself(self):
        for name in ("put", "take", "has", "words", "begun", "many", "nodes"):
            self.assertTrue(inspect.isfunction(vars(tree.Tree).get(name)), name)

    def test_arguments(self):
        for function, names in (
            (words.is_word, ["thing"]), (changes.done, ["text", "change"]), (changes.led, ["text", "changes"]),
            (tables.table, ["one", "other"]), (tables.distance, ["one", "other"]), (tables.way, ["one", "other"]),
            (tree.Tree, []), (tree.Tree.put, ["self", "word"]), (tree.Tree.take, ["self", "word"]),
            (tree.Tree.has, ["self", "word"]), (tree.Tree.words, ["self"]), (tree.Tree.begun, ["self", "begin"]),
            (tree.Tree.many, ["self"]), (tree.Tree.nodes, ["self"]),
            (near.near, ["tree", "word", "most"]), (near.looked, ["tree", "word", "most"]),
        ):
            self.assertEqual(list(inspect.signature(function).parameters), names)

    def test_arguments_by_their_names(self):
        self.assertIs(words.is_word(thing="cat"), True)
        self.assertEqual(changes.done(text="cat", change=("cut", 0)), "at")
        self.assertEqual(changes.led(text="cat", changes=[("cut", 0)]), "at")
        self.assertEqual(tables.table(other="a", one=""), [[0, 1]])
        self.assertEqual(tables.distance(one="cat", other="at"), 1)
        self.assertEqual(tables.way(other="at", one="cat"), [("cut", 0)])
        kept = tree.Tree()
        self.assertIs(kept.put(word="cat"), True)
        self.assertIs(kept.has(word="cat"), True)
        self.assertEqual(kept.begun(begin="c"), ["cat"])
        self.assertEqual(near.near(most=0, word="cat", tree=kept), [("cat", [])])
        self.assertEqual(near.looked(most=0, word="cat", tree=kept), 4)
        self.assertIs(kept.take(word="cat"), True)


class FilesTest(unittest.TestCase):
    def test_the_folder_holds_plain_files_alone(self):
        self.assertIn(FOLDER / "__init__.py", FILES)
        for path in FOLDER.rglob("*"):
            if "__pycache__" not in path.parts:
                self.assertRegex(path.name, r"\A[a-z0-9_]+\.py\Z")

    def test_sizes_and_signs(self):
        for file in FILES:
            source = file.read_text(encoding="utf-8")
            self.assertIsNone(re.search(r"[^ -~\n]", source), file.name)
            self.assertLessEqual(len(source.splitlines()), 399, file.name)
            self.assertLessEqual(max(len(line) for line in source.splitlines()), 120, file.name)
            for node in ast.walk(ast.parse(source)):
                if isinstance(node, ast.FunctionDef):
                    self.assertLessEqual(node.end_lineno - node.lineno + 1, 40, node.name)

    def test_no_percent_sign_in_a_string(self):
        for file in FILES:
            for text in texts(parsed(file)):
                self.assertNotIn("%", text, file.name)

    def test_python_gives_no_warning(self):
        for file in FILES:
            with warnings.catch_warnings():
                warnings.simplefilter("error")
                compile(file.read_text(encoding="utf-8"), str(file), "exec")


class ClosedTest(unittest.TestCase):
    """Point 1: no clock, chance or files, since there is no way to them."""

    def test_only_the_package_and_what_the_language_names_is_imported(self):
        allowed = ("nearword", "heapq", "math", "itertools", "collections")
        for file in FILES:
            for node in ast.walk(parsed(file)):
                self.assertNotIsInstance(node, ast.Import, file.name)
                if isinstance(node, ast.ImportFrom):
                    self.assertEqual(node.level, 0, file.name)
                    self.assertIn(node.module.split(".")[0], allowed, file.name)

    def test_no_builtin_that_reaches_outside(self):
        barred = {"open", "input", "print", "exec", "eval", "compile", "globals", "locals", "vars", "id", "hash"}
        for file in FILES:
            for node in ast.walk(parsed(file)):
                if isinstance(node, ast.Name):
                    self.assertNotIn(node.id, barred, file.name)
                    self.assertFalse(node.id.startswith("__"), file.name)


if __name__ == "__main__":
    unittest.main()
