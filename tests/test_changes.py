"""Points 4 and 5: what changes do, and which are refused; point 1, as far as it speaks of them."""

import copy
import unittest

from nearword.changes import done, led
from nearword.errors import BadChange

ALPHABET = "abcdefghijklmnopqrstuvwxyz"

NO_PLACES = (
    True, False, None, "0", "1", "", "a", 0.0, 1.0, 1.5, float("nan"), float("inf"), 1j, [0], (0,), (), [], {}, {0},
    b"0", b"\x00", object(), range(1), int,
)

NO_LETTERS = (
    "A", "Z", "B", "0", "7", "", " ", "-", "_", "~", "`", "{", "@", "[", "ab", "bc", "xyz", "aa", "a ", " a",
    ALPHABET, None, 0, 1, 97, 1.5, True, False, ["a"], ("a",), [], (), {}, {"a": 1}, {"a"}, b"a", b"", object(), str,
)

NO_TUPLES = (
    None, 0, 1, -1, 1.5, True, False, "", "put", "cut", "turn", "put 0 a", "p0a", b"put", b"",
    [], ["put", 0, "a"], ["cut", 0], ["turn", 0, "a"], [("cut", 0)], {}, {"put": 0}, {"cut": 0, 0: "cut"},
    {"put", 0, "a"}, range(3), object(), tuple, done, iter(("cut", 0)),
)

WRONG_TUPLES = (
    (), ("put",), ("cut",), ("turn",), ("put", 0), ("turn", 0), ("put", "a"), ("cut", 0, "a"), ("cut", 0, "c"),
    ("cut", 0, None), ("cut", 0, 0), ("put", 0, "a", "b"), ("put", 0, "a", None), ("put", 0, "a", 0),
    ("turn", 0, "a", "b"), ("turn", 0, "a", None), ("cut", 0, 1, 2), ("put", 0, "a", 1, "b"),
    ("Put", 0, "a"), ("PUT", 0, "a"), ("Cut", 0), ("Turn", 0, "a"), ("put ", 0, "a"), (" cut", 0), ("", 0, "a"),
    ("", 0), ("pu", 0, "a"), ("puts", 0, "a"), ("cu", 0), ("add", 0, "a"), ("keep", 0), ("swap", 0, 1),
    (b"put", 0, "a"), (b"cut", 0), (None, 0, "a"), (None, 0), (0, "a"), (0, "cut"), (0, "put", "a"), ("a", 0, "put"),
    (0, 0, 0), (True, 0, "a"), (["put"], 0, "a"), (("put",), 0, "a"), (["cut"], 0), ({}, 0), ({"cut": 0}, 0),
    (object(), 0), (("cut", 0),), (("cut", 0), ("cut", 0)), ("put", "a", 0), ("turn", "b", 0), ("cut", "c"),
    ("put", (0, "a")), ("turn", (0, "b")), (1.5, 0),
)


class Odd:
    """A thing whose own == says yes to anything, or fails."""

    def __init__(self, fails):
        self.fails = fails

    def __eq__(self, other):
        if self.fails:
            raise RuntimeError("not to be compared")
        return True

    def __hash__(self):
        raise RuntimeError("not to be hashed")

    def __repr__(self):
        raise RuntimeError("not to be shown")


class ChangesTestCase(unittest.TestCase):
    def refused(self, text, change):
        """Refused by BadChange itself, alone and at each place of a list."""
        with self.assertRaises(BadChange) as caught:
            done(text, change)
        self.assertIs(type(caught.exception), BadChange)
        # These lead to a text and back, so the refused one meets the same text.
        there, back = ("put", 0, "q"), ("cut", 0)
        rows = (
            [change],
            [change, there],
            [there, back, change],
            [there, back, change, there, back],
            [change, change],
        )
        for row in rows:
            with self.assertRaises(BadChange) as caught:
                led(text, row)
            self.assertIs(type(caught.exception), BadChange)


class PutTest(unittest.TestCase):
    def test_at_nought(self):
        self.assertEqual(done("at", ("put", 0, "c")), "cat")

    def test_in_the_middle(self):
        self.assertEqual(done("cat", ("put", 1, "o")), "coat")
        self.assertEqual(done("abcd", ("put", 2, "x")), "abxcd")

    def test_ahead_of_the_last_letter(self):
        self.assertEqual(done("cat", ("put", 2, "r")), "cart")

    def test_at_the_end(self):
        self.assertEqual(done("cat", ("put", 3, "s")), "cats")

    def test_on_the_empty_text(self):
        for letter in ALPHABET:
            self.assertEqual(done("", ("put", 0, letter)), letter)

    def test_a_letter_beside_its_like(self):
        self.assertEqual(done("aa", ("put", 1, "a")), "aaa")

    def test_each_place_and_letter(self):
        for place in range(5):
            for letter in ALPHABET:
                letters = list("near")
                letters.insert(place, letter)
                self.assertEqual(done("near", ("put", place, letter)), "".join(letters))


class CutTest(ChangesTestCase):
    def test_at_nought(self):
        self.assertEqual(done("cat", ("cut", 0)), "at")

    def test_in_the_middle(self):
        self.assertEqual(done("cat", ("cut", 1)), "ct")
        self.assertEqual(done("abcde", ("cut", 2)), "abde")

    def test_at_the_last_place(self):
        self.assertEqual(done("cat", ("cut", 2)), "ca")

    def test_the_only_letter(self):
        self.assertEqual(done("a", ("cut", 0)), "")

    def test_the_empty_text_has_no_place_to_cut(self):
        self.refused("", ("cut", 0))

    def test_each_place(self):
        for place in range(8):
            letters = list("nearword")
            del letters[place]
            self.assertEqual(done("nearword", ("cut", place)), "".join(letters))


class TurnTest(ChangesTestCase):
    def test_at_nought(self):
        self.assertEqual(done("cat", ("turn", 0, "b")), "bat")

    def test_in_the_middle(self):
        self.assertEqual(done("cat", ("turn", 1, "u")), "cut")

    def test_at_the_last_place(self):
        self.assertEqual(done("cat", ("turn", 2, "r")), "car")

    def test_the_only_letter(self):
        self.assertEqual(done("a", ("turn", 0, "z")), "z")

    def test_the_empty_text_has_no_place_to_turn(self):
        self.refused("", ("turn", 0, "a"))

    def test_each_place_and_letter(self):
        for place in range(4):
            for letter in ALPHABET:
                if letter != "near"[place]:
                    letters = list("near")
                    letters[place] = letter
                    self.assertEqual(done("near", ("turn", place, letter)), "".join(letters))

    def test_into_a_letter_that_stands_elsewhere(self):
        self.assertEqual(done("abc", ("turn", 0, "b")), "bbc")
        self.assertEqual(done("abc", ("turn", 2, "b")), "abb")

    def test_into_itself_is_refused(self):
        for place in range(3):
            self.refused("cat", ("turn", place, "cat"[place]))
        self.refused("a", ("turn", 0, "a"))


class LongTextsTest(ChangesTestCase):
    def test_a_word_of_24_letters_grows(self):
        self.assertEqual(done("a" * 24, ("put", 24, "b")), "a" * 24 + "b")
        self.assertEqual(done("a" * 24, ("put", 0, "b")), "b" + "a" * 24)

    def test_texts_of_more_than_24_letters(self):
        text = "a" * 30
        self.assertEqual(done(text, ("put", 30, "b")), text + "b")
        self.assertEqual(done(text, ("put", 25, "b")), "a" * 25 + "b" + "a" * 5)
        self.assertEqual(done(text, ("cut", 29)), "a" * 29)
        self.assertEqual(done(text, ("turn", 29, "b")), "a" * 29 + "b")
        self.refused(text, ("put", 31, "b"))
        self.refused(text, ("cut", 30))
        self.refused(text, ("turn", 30, "b"))

    def test_grown_and_shrunk_in_between(self):
        grown = [("put", 24 + step, "b") for step in range(40)]
        self.assertEqual(led("a" * 24, grown), "a" * 24 + "b" * 40)
        shrunk = [("cut", 0) for _ in range(40)]
        self.assertEqual(led("a" * 24, grown + shrunk), "b" * 24)
        self.assertEqual(led("", [("put", 0, "z")] * 100), "z" * 100)


class LedTest(ChangesTestCase):
    def test_no_changes(self):
        for text in ("", "a", "cat", "a" * 24, "a" * 30):
            self.assertEqual(led(text, []), text)

    def test_one_change(self):
        self.assertEqual(led("at", [("put", 0, "c")]), "cat")
        self.assertEqual(led("cat", [("cut", 1)]), "ct")
        self.assertEqual(led("cat", [("turn", 2, "r")]), "car")

    def test_several_in_a_row(self):
        changes = [("turn", 0, "s"), ("turn", 4, "i"), ("put", 6, "g")]
        self.assertEqual(led("kitten", changes), "sitting")

    def test_done_in_their_order(self):
        self.assertEqual(led("", [("put", 0, "a"), ("put", 0, "b")]), "ba")
        self.assertEqual(led("ab", [("cut", 0), ("turn", 0, "c")]), "c")
        self.assertEqual(led("ab", [("turn", 0, "c"), ("cut", 0)]), "b")

    def test_places_are_counted_in_the_word_as_it_is_then(self):
        self.assertEqual(led("abc", [("cut", 0), ("cut", 0)]), "c")
        self.assertEqual(led("abc", [("put", 0, "x"), ("cut", 1)]), "xbc")
        self.assertEqual(led("abc", [("put", 3, "d"), ("put", 4, "e"), ("cut", 4)]), "abcd")
        self.assertEqual(led("", [("put", 0, "a"), ("turn", 0, "b"), ("cut", 0)]), "")

    def test_a_place_that_is_no_more_is_refused(self):
        for changes in (
            [("cut", 2), ("turn", 2, "x")],
            [("cut", 0), ("cut", 2)],
            [("cut", 0), ("put", 3, "x")],
            [("cut", 0), ("cut", 0), ("cut", 0), ("cut", 0)],
        ):
            with self.assertRaises(BadChange):
                led("abc", changes)

    def test_a_letter_turned_twice(self):
        self.assertEqual(led("a", [("turn", 0, "b"), ("turn", 0, "a")]), "a")
        with self.assertRaises(BadChange):
            led("a", [("turn", 0, "b"), ("turn", 0, "b")])

    def test_the_same_as_done_one_by_one(self):
        changes = [("put", 1, "x"), ("cut", 0), ("turn", 2, "q"), ("put", 3, "z"), ("cut", 1)]
        now = "abc"
        for change in changes:
            now = done(now, change)
        self.assertEqual(led("abc", changes), now)
        self.assertEqual(now, "xqz")


class RefusedPlacesTest(ChangesTestCase):
    def test_below_nought(self):
        for text in ("", "a", "cat", "a" * 24):
            for place in (-1, -2, -3, -len(text), -len(text) - 1, -10 ** 30):
                if place < 0:
                    self.refused(text, ("put", place, "x"))
                    self.refused(text, ("cut", place))
                    self.refused(text, ("turn", place, "x"))

    def test_beyond_the_end(self):
        for text in ("", "a", "cat", "a" * 24):
            for place in (len(text), len(text) + 1, len(text) + 7, 10 ** 30):
                self.refused(text, ("cut", place))
                self.refused(text, ("turn", place, "x"))
                if place > len(text):
                    self.refused(text, ("put", place, "x"))

    def test_what_is_no_place(self):
        for text in ("", "a", "cat"):
            for place in NO_PLACES:
                with self.subTest(text=text, place=repr(place)):
                    self.refused(text, ("put", place, "x"))
                    self.refused(text, ("cut", place))
                    self.refused(text, ("turn", place, "x"))


class RefusedLettersTest(ChangesTestCase):
    def test_what_is_no_letter(self):
        for text in ("a", "cat", "a" * 24):
            for letter in NO_LETTERS:
                with self.subTest(text=text, letter=repr(letter)):
                    self.refused(text, ("put", 0, letter))
                    self.refused(text, ("put", len(text), letter))
                    self.refused(text, ("turn", 0, letter))
                    self.refused(text, ("turn", len(text) - 1, letter))

    def test_on_the_empty_text(self):
        for letter in NO_LETTERS:
            with self.subTest(letter=repr(letter)):
                self.refused("", ("put", 0, letter))


class RefusedFormsTest(ChangesTestCase):
    def test_things_that_are_no_tuples(self):
        for text in ("", "cat"):
            for change in NO_TUPLES:
                with self.subTest(text=text, change=repr(change)):
                    self.refused(text, change)

    def test_tuples_of_another_length_or_first_member(self):
        for text in ("", "cat"):
            for change in WRONG_TUPLES:
                with self.subTest(text=text, change=repr(change)):
                    self.refused(text, change)

    def test_things_that_are_odd_to_compare_hash_or_show(self):
        for fails in (True, False):
            odd = Odd(fails)
            for change in (
                odd, (odd,), (odd, 0), (odd, 0, "a"), ("cut", odd), ("put", odd, "a"), ("put", 0, odd),
                ("turn", odd, "a"), ("turn", 0, odd), (odd, odd), (odd, odd, odd),
            ):
                self.refused("cat", change)

    def test_nested_deep(self):
        deep = []
        for _ in range(100000):
            deep = [deep]
        self.refused("cat", ("cut", deep))
        self.refused("cat", (deep, 0))


class NothingIsChangedTest(unittest.TestCase):
    def as_it_was(self, changes, members):
        self.assertEqual(changes, members)
        for change, member in zip(changes, members):
            self.assertIs(change, member)

    def test_the_list_of_changes_behind_a_call(self):
        changes = [("put", 0, "c"), ("cut", 1), ("turn", 1, "x")]
        members = list(changes)
        self.assertEqual(led("abc", changes), "cxc")
        self.as_it_was(changes, members)
        # As it was, it leads to the same text again.
        self.assertEqual(led("abc", changes), "cxc")

    def test_the_empty_list(self):
        changes = []
        led("abc", changes)
        self.assertEqual(changes, [])

    def test_the_list_of_changes_behind_a_refusal(self):
        good = [("put", 0, "c"), ("cut", 1), ("turn", 1, "x")]
        for bad in (None, ("cut", 99), ("put", True, "a"), ["cut", 0], ("turn", 0, "A"), ()):
            for at in range(len(good) + 1):
                changes = good[:at] + [bad] + good[at:]
                members = list(changes)
                with self.assertRaises(BadChange):
                    led("abc", changes)
                self.as_it_was(changes, members)

    def test_things_within_a_refused_change(self):
        for change in (["put", 0, "a"], ("put", [0], "a"), ("put", 0, ["a"]), {"cut": 0}, (["cut"], 0)):
            before = copy.deepcopy(change)
            with self.assertRaises(BadChange):
                done("abc", change)
            self.assertEqual(change, before)

    def test_a_refusal_leaves_no_trace(self):
        with self.assertRaises(BadChange):
            led("abc", [("cut", 0), ("cut", 7)])
        self.assertEqual(led("abc", [("cut", 0)]), "bc")
        self.assertEqual(done("abc", ("cut", 2)), "ab")


if __name__ == "__main__":
    unittest.main()
