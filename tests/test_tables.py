"""Points 6 and 7: distances, ways and tables; points 1, 2, 4 and 11, as far as they speak of them."""

import itertools
import random
import unittest

from nearword.changes import done, led
from nearword.errors import BadWord, NearError
from nearword.tables import distance, table, way

ALPHABET = "abcdefghijklmnopqrstuvwxyz"

NO_WORDS = (
    "A", "Cat", "caT", "c t", " ", " cat", "cat ", "1", "c-t", "cat.", "~", "`", "{", "@", "a" * 25, ALPHABET,
    "a" * 24 + "A", None, 0, 1, -1, 24, 1.5, True, False, [], ["c", "a", "t"], ["cat"], (), ("cat",), {},
    {"cat": True}, set(), {"cat"}, frozenset("cat"), b"", b"cat", bytearray(b"cat"), range(3), object(), str, len,
)

# Words that differ in many ways: of no letter, of 24, alike in part, with a letter several times.
SOME_WORDS = (
    "", "a", "b", "ab", "ba", "aa", "aab", "aba", "abc", "cba", "cat", "cats", "at", "coat", "kitten", "sitting",
    "saturday", "sunday", "banana", "ananas", "intention", "execution", "abcabcabc", "cabcabcab",
    "a" * 24, "b" * 24, "ab" * 12, "ba" * 12, ALPHABET[:24], ALPHABET[2:], "a" * 23 + "b", "m" * 12 + "n" * 12,
)


def steps_from(word, longest):
    """The words of a and b that lie around a word, each with the fewest changes, by doing every change."""
    told = {word: 0}
    ahead = [word]
    while ahead:
        behind = []
        for now in ahead:
            changes = [("put", place, letter) for place in range(len(now) + 1) for letter in "ab"]
            changes += [("cut", place) for place in range(len(now))]
            changes += [("turn", place, "ab"[now[place] == "a"]) for place in range(len(now))]
            for change in changes:
                text = done(now, change)
                if len(text) <= longest and text not in told:
                    told[text] = told[now] + 1
                    behind.append(text)
        ahead = behind
    return told


def fewest(one, other, kept={}):
    """The distance by its own reckoning: what is done at the first letters, and the rest."""
    if (one, other) not in kept:
        if not one or not other:
            kept[one, other] = len(one) + len(other)
        elif one[0] == other[0]:
            kept[one, other] = fewest(one[1:], other[1:])
        else:
            kept[one, other] = 1 + min(fewest(one[1:], other), fewest(one, other[1:]), fewest(one[1:], other[1:]))
    return kept[one, other]


def chance_words(many):
    chance = random.Random(7)
    return ["".join(chance.choice("abcd") for _ in range(chance.randint(0, 24))) for _ in range(many)]


class DistanceTest(unittest.TestCase):
    def test_from_itself(self):
        for word in SOME_WORDS:
            self.assertEqual(distance(word, word), 0)

    def test_one_put_cut_or_turn(self):
        for one, other in (("at", "cat"), ("cat", "coat"), ("cat", "cats"), ("", "a"), ("a" * 23, "a" * 24)):
            self.assertEqual(distance(one, other), 1)
            self.assertEqual(distance(other, one), 1)
        for one, other in (("cat", "bat"), ("cat", "cut"), ("cat", "car"), ("a", "z"), ("a" * 24, "a" * 23 + "b")):
            self.assertEqual(distance(one, other), 1)
            self.assertEqual(distance(other, one), 1)

    def test_of_the_empty_text(self):
        for word in SOME_WORDS:
            self.assertEqual(distance("", word), len(word))
            self.assertEqual(distance(word, ""), len(word))

    def test_of_24_letters(self):
        self.assertEqual(distance("a" * 24, "b" * 24), 24)
        self.assertEqual(distance("ab" * 12, "ba" * 12), 2)
        self.assertEqual(distance(ALPHABET[:24], ALPHABET[2:]), 4)
        self.assertEqual(distance("a" * 24, "a"), 23)

    def test_known_ones(self):
        self.assertEqual(distance("kitten", "sitting"), 3)
        self.assertEqual(distance("saturday", "sunday"), 3)
        self.assertEqual(distance("intention", "execution"), 5)
        self.assertEqual(distance("ab", "ba"), 2)
        self.assertEqual(distance("banana", "ananas"), 2)

    def test_no_fewer_changes_lead_there(self):
        for letters in range(5):
            for one in map("".join, itertools.product("ab", repeat=letters)):
                told = steps_from(one, 6)
                for other, many in told.items():
                    if len(other) <= 4:
                        self.assertEqual(distance(one, other), many, (one, other))

    def test_against_another_reckoning(self):
        words = list(SOME_WORDS) + chance_words(40)
        for one in words:
            for other in words:
                self.assertEqual(distance(one, other), fewest(one, other), (one, other))

    def test_a_whole_number(self):
        for one in ("", "cat"):
            for other in ("", "cat", "coat"):
                self.assertIs(type(distance(one, other)), int)


class TableTest(unittest.TestCase):
    def test_the_empty_text_twice(self):
        self.assertEqual(table("", ""), [[0]])

    def test_the_empty_text_at_the_first_place(self):
        self.assertEqual(table("", "cat"), [[0, 1, 2, 3]])
        self.assertEqual(table("", "a" * 24), [list(range(25))])

    def test_the_empty_text_at_the_second_place(self):
        self.assertEqual(table("cat", ""), [[0], [1], [2], [3]])
        self.assertEqual(table("a" * 24, ""), [[number] for number in range(25)])

    def test_ordinary_words(self):
        self.assertEqual(table("ab", "b"), [[0, 1], [1, 1], [2, 1]])
        self.assertEqual(table("b", "ab"), [[0, 1, 2], [1, 1, 1]])
        self.assertEqual(table("cat", "cut"), [[0, 1, 2, 3], [1, 0, 1, 2], [2, 1, 1, 2], [3, 2, 2, 1]])
        self.assertEqual(
            table("at", "coat"),
            [[0, 1, 2, 3, 4], [1, 1, 2, 2, 3], [2, 2, 2, 3, 2]],
        )

    def test_its_kinds(self):
        for one, other in (("", ""), ("cat", ""), ("", "cat"), ("cat", "coat")):
            rows = table(one, other)
            self.assertIs(type(rows), list)
            for row in rows:
                self.assertIs(type(row), list)
                for number in row:
                    self.assertIs(type(number), int)

    def test_the_least_of_three(self):
        words = list(SOME_WORDS) + chance_words(12)
        for one in words:
            for other in words:
                rows = table(one, other)
                self.assertEqual(len(rows), len(one) + 1)
                self.assertEqual({len(row) for row in rows}, {len(other) + 1})
                self.assertEqual(rows[0][0], 0)
                for down, row in enumerate(rows):
                    for across, number in enumerate(row):
                        three = []
                        if across:
                            three.append(row[across - 1] + 1)
                        if down:
                            three.append(rows[down - 1][across] + 1)
                        if across and down:
                            unlike = one[down - 1] != other[across - 1]
                            three.append(rows[down - 1][across - 1] + unlike)
                        if three:
                            self.assertEqual(number, min(three))

    def test_the_distances_of_the_beginnings(self):
        for one, other in (("kitten", "sitting"), ("", "abc"), ("abc", ""), ("banana", "ananas"), ("ab" * 12, "ba" * 12)):
            rows = table(one, other)
            for down in range(len(one) + 1):
                for across in range(len(other) + 1):
                    self.assertEqual(rows[down][across], distance(one[:down], other[:across]))
                    self.assertEqual(rows[down][across], fewest(one[:down], other[:across]))

    def test_told_again_after_the_first_was_emptied(self):
        for one, other in (("cat", "coat"), ("", ""), ("a", ""), ("", "a"), ("aa", "aa")):
            first = table(one, other)
            again = [list(row) for row in first]
            for row in first:
                row.clear()
            first.clear()
            self.assertEqual(table(one, other), again)

    def test_no_row_is_told_twice(self):
        first = table("aaa", "a")
        second = table("aaa", "a")
        self.assertEqual(len({id(row) for row in first + second}), 8)
        first[0][0] = 9
        self.assertEqual([row[0] for row in first], [9, 1, 2, 3])
        self.assertEqual(second[0][0], 0)


class WayTest(unittest.TestCase):
    def leads(self, one, other):
        changes = way(one, other)
        self.assertIs(type(changes), list)
        self.assertEqual(led(one, changes), other, (one, other, changes))
        self.assertEqual(len(changes), fewest(one, other), (one, other, changes))
        self.assertEqual(len(changes), distance(one, other))

    def test_from_itself(self):
        for word in SOME_WORDS:
            self.assertEqual(way(word, word), [])

    def test_the_only_way(self):
        self.assertEqual(way("at", "cat"), [("put", 0, "c")])
        self.assertEqual(way("cat", "coat"), [("put", 1, "o")])
        self.assertEqual(way("cat", "cats"), [("put", 3, "s")])
        self.assertEqual(way("cat", "at"), [("cut", 0)])
        self.assertEqual(way("coat", "cat"), [("cut", 1)])
        self.assertEqual(way("cats", "cat"), [("cut", 3)])
        self.assertEqual(way("cat", "bat"), [("turn", 0, "b")])
        self.assertEqual(way("cat", "cut"), [("turn", 1, "u")])
        self.assertEqual(way("cat", "car"), [("turn", 2, "r")])
        self.assertEqual(way("", "q"), [("put", 0, "q")])
        self.assertEqual(way("q", ""), [("cut", 0)])

    def test_between_the_empty_text_and_24_letters(self):
        for word in ("a" * 24, ALPHABET[:24], "ab" * 12):
            self.leads("", word)
            self.leads(word, "")

    def test_between_words_of_24_letters(self):
        for one in SOME_WORDS:
            for other in SOME_WORDS:
                if len(one) == len(other) == 24:
                    self.leads(one, other)

    def test_each_pair(self):
        words = list(SOME_WORDS) + chance_words(30)
        for one in words:
            for other in words:
                self.leads(one, other)

    def test_each_pair_of_short_words(self):
        words = ["".join(letters) for many in range(4) for letters in itertools.product("abc", repeat=many)]
        for one in words:
            for other in words:
                self.leads(one, other)

    def test_told_again_after_the_first_was_emptied(self):
        for one, other in (("kitten", "sitting"), ("a", "b"), ("", "abc"), ("abc", "")):
            first = way(one, other)
            again = list(first)
            first.clear()
            self.assertEqual(way(one, other), again)
            self.assertEqual(led(one, again), other)

    def test_the_list_of_no_changes_is_a_new_one(self):
        first = way("cat", "cat")
        first.append(("cut", 0))
        self.assertEqual(way("cat", "cat"), [])


class RefusedTest(unittest.TestCase):
    def refused(self, call, one, other):
        with self.assertRaises(BadWord) as caught:
            call(one, other)
        self.assertIs(type(caught.exception), BadWord)

    def test_what_is_no_word_at_either_place_or_both(self):
        for call in (table, distance, way):
            for thing in NO_WORDS:
                with self.subTest(call=call.__name__, thing=repr(thing)):
                    for word in ("", "cat", "a" * 24):
                        self.refused(call, thing, word)
                        self.refused(call, word, thing)
                    self.refused(call, thing, thing)
                    self.refused(call, thing, None)

    def test_caught_by_its_bases(self):
        for call in (table, distance, way):
            for base in (NearError, ValueError):
                with self.assertRaises(base):
                    call("Cat", "cat")
                with self.assertRaises(base):
                    call("cat", 1)

    def test_a_word_of_25_letters(self):
        for call in (table, distance, way):
            self.refused(call, "a" * 25, "")
            self.refused(call, "", "a" * 25)
            call("a" * 24, "a" * 24)

    def test_what_is_handed_in_is_as_it_was(self):
        for call in (table, distance, way):
            letters = ["c", "a", "t"]
            self.refused(call, letters, "cat")
            self.refused(call, "cat", letters)
            self.assertEqual(letters, ["c", "a", "t"])

    def test_a_refusal_leaves_no_trace(self):
        self.refused(table, "cat", "CAT")
        self.assertEqual(table("a", "b"), [[0, 1], [1, 1]])
        self.assertEqual(distance("cat", "cut"), 1)


if __name__ == "__main__":
    unittest.main()
