"""Point 2: what a word is."""

import unittest

from nearword.words import LETTERS, MOST_LETTERS, is_word

ALPHABET = "abcdefghijklmnopqrstuvwxyz"

# The signs from the blank to ~ that are no letters from a to z; of the
# percent sign nothing is promised.
OTHER_SIGNS = [chr(code) for code in range(32, 127) if chr(code) not in ALPHABET + "%"]


class NamesTest(unittest.TestCase):
    def test_letters_are_those_from_a_to_z(self):
        self.assertEqual("".join(LETTERS), ALPHABET)
        self.assertEqual(len(LETTERS), 26)

    def test_most_letters(self):
        self.assertIs(type(MOST_LETTERS), int)
        self.assertEqual(MOST_LETTERS, 24)


class WordsTest(unittest.TestCase):
    def test_the_empty_text_is_a_word(self):
        self.assertIs(is_word(""), True)

    def test_each_letter_is_a_word(self):
        for letter in ALPHABET:
            self.assertIs(is_word(letter), True, letter)

    def test_ordinary_words(self):
        for word in ("cat", "near", "zzz", "banana", "abc", "zyx", "hamburger"):
            self.assertIs(is_word(word), True, word)

    def test_each_length(self):
        for many in range(40):
            with self.subTest(many=many):
                self.assertIs(is_word("z" * many), many <= 24)

    def test_24_and_25_different_letters(self):
        self.assertIs(is_word(ALPHABET[:24]), True)
        self.assertIs(is_word(ALPHABET[2:]), True)
        self.assertIs(is_word(ALPHABET[:25]), False)
        self.assertIs(is_word(ALPHABET), False)


class NoWordsTest(unittest.TestCase):
    def test_another_sign_at_any_place(self):
        for many in (1, 2, 3, 7, 24):
            for place in range(many):
                for sign in OTHER_SIGNS:
                    text = "m" * place + sign + "m" * (many - place - 1)
                    self.assertIs(is_word(text), False, text)

    def test_the_signs_that_are_named(self):
        for text in ("Cat", "cAt", "caT", "1at", "c1t", "ca1", " at", "c t", "ca ", "-at", "c-t", "ca-", "CAT", " ", "0"):
            self.assertIs(is_word(text), False, text)

    def test_too_long_with_another_sign(self):
        self.assertIs(is_word("a" * 24 + "-"), False)

    def test_what_is_no_text(self):
        things = (
            0, 1, 24, -1, 10 ** 50, 1.5, True, False, None, [], ["c", "a", "t"], (), ("c", "a", "t"), ("cat",),
            b"", b"cat", bytearray(b"cat"), {}, {"c": 1, "a": 2}, set(), {"a"}, frozenset("cat"), range(3),
            object(), str, len, ["cat"], [[]], {"cat": True},
        )
        for thing in things:
            with self.subTest(thing=repr(thing)):
                self.assertIs(is_word(thing), False)

    def test_many_members_that_are_letters_make_no_word(self):
        self.assertIs(is_word(["a"] * 24), False)
        self.assertIs(is_word(["a"] * 25), False)


class NothingIsChangedTest(unittest.TestCase):
    def test_what_is_handed_in_is_as_it_was(self):
        letters = ["c", "a", "t"]
        table = {"c": 1}
        is_word(letters)
        is_word(table)
        self.assertEqual(letters, ["c", "a", "t"])
        self.assertEqual(table, {"c": 1})

    def test_the_same_is_told_each_time(self):
        for _ in range(3):
            self.assertIs(is_word("cat"), True)
            self.assertIs(is_word("c-t"), False)


if __name__ == "__main__":
    unittest.main()
