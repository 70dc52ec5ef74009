"""Points 9 and 10: near words and the nodes looked at; points 1, 3 and 11, as far as they speak of them."""

import functools
import itertools
import random
import unittest

from nearword.changes import led
from nearword.errors import BadMost, BadWord, NearError
from nearword.near import looked, near
from nearword.tree import Tree

ALPHABET = "abcdefghijklmnopqrstuvwxyz"

NO_WORDS = (
    "A", "Cat", "caT", "c t", " ", " cat", "cat ", "1", "c-t", "cat.", "~", "`", "{", "@", "a" * 25, ALPHABET,
    "a" * 24 + "A", None, 0, 1, -1, 24, 1.5, True, False, [], ["c", "a", "t"], ["cat"], (), ("cat",), {},
    {"cat": True}, set(), {"cat"}, frozenset("cat"), b"", b"cat", bytearray(b"cat"), range(3), object(), str, len,
)

NO_MOSTS = (
    -1, -2, -24, -10 ** 30, 25, 26, 100, 10 ** 30, True, False, None, "", "0", "1", "a", "cat", b"1", 0.0, 1.0, 1.5,
    float("nan"), float("inf"), 1j, [], [1], (), (1,), {}, {1: 1}, set(), {1}, range(3), object(), int,
)


class Odd:
    """A thing that fails wherever it is compared, hashed or shown."""

    def fail(self, *_):
        raise RuntimeError("not to be asked")

    __eq__ = __lt__ = __gt__ = __le__ = __ge__ = __hash__ = __len__ = __bool__ = __repr__ = __iter__ = fail


@functools.lru_cache(maxsize=None)
def fewest(one, other):
    """The distance by its own reckoning: what is done at the first letters, and the rest."""
    if not one or not other:
        return len(one) + len(other)
    if one[0] == other[0]:
        return fewest(one[1:], other[1:])
    return 1 + min(fewest(one[1:], other), fewest(one, other[1:]), fewest(one[1:], other[1:]))


def beginnings(word):
    return [word[:many] for many in range(len(word) + 1)]


def plain_near(words, word, most):
    """The near words with their distances, by asking each word."""
    told = [(fewest(word, one), one) for one in words if fewest(word, one) <= most]
    return [(one, many) for many, one in sorted(told)]


def plain_looked(words, word, most):
    """The nodes looked at, by asking each beginning of each word."""
    texts = {text for one in words for text in beginnings(one)} | {""}
    return sum(any(fewest(begin, text) <= most for begin in beginnings(word)) for text in texts)


def tree_of(words):
    tree = Tree()
    for word in words:
        tree.put(word)
    return tree


def chance_words(chance, letters, longest, many):
    return ["".join(chance.choice(letters) for _ in range(chance.randint(0, longest))) for _ in range(many)]


ANIMALS = ["cat", "cats", "car", "bat", "at", "coat", "dog", "do", "dot", "cattle", "", "rabbit", "habit", "a", "act"]


class NearTestCase(unittest.TestCase):
    def tells(self, tree, words, word, most):
        """All that point 9 says of one question, and the count of point 10."""
        told = near(tree, word, most)
        self.assertIs(type(told), list)
        for pair in told:
            self.assertIs(type(pair), tuple)
            self.assertEqual(len(pair), 2)
            self.assertIs(type(pair[1]), list)
            self.assertEqual(led(word, pair[1]), pair[0])
        self.assertEqual([(one, len(changes)) for one, changes in told], plain_near(set(words), word, most))
        self.assertEqual(looked(tree, word, most), plain_looked(set(words), word, most))

    def refused(self, kind, call, *handed):
        with self.assertRaises(kind) as caught:
            call(*handed)
        self.assertIs(type(caught.exception), kind)


class NearTest(NearTestCase):
    def test_within_one(self):
        told = near(tree_of(ANIMALS), "cat", 1)
        self.assertEqual([word for word, _ in told], ["cat", "at", "bat", "car", "cats", "coat"])
        self.assertEqual(told, [
            ("cat", []), ("at", [("cut", 0)]), ("bat", [("turn", 0, "b")]), ("car", [("turn", 2, "r")]),
            ("cats", [("put", 3, "s")]), ("coat", [("put", 1, "o")]),
        ])

    def test_within_two(self):
        told = near(tree_of(ANIMALS), "cat", 2)
        self.assertEqual(
            [word for word, _ in told],
            ["cat", "at", "bat", "car", "cats", "coat", "a", "act", "dot"],
        )

    def test_the_nearest_first_those_of_one_distance_in_order(self):
        tree = tree_of(["b", "ab", "a", "", "ba", "aa", "abc", "bb"])
        self.assertEqual([word for word, _ in near(tree, "a", 24)], ["a", "", "aa", "ab", "b", "ba", "abc", "bb"])

    def test_each_most(self):
        tree = tree_of(ANIMALS)
        for word in ANIMALS + ["cab", "zebra", "tac", "c", "hobbit", "z" * 24, "cat" * 8]:
            for most in range(25):
                self.tells(tree, ANIMALS, word, most)

    def test_most_nought(self):
        tree = tree_of(ANIMALS)
        for word in ANIMALS:
            self.assertEqual(near(tree, word, 0), [(word, [])])
        for word in ("ca", "catt", "tac", "z" * 24):
            self.assertEqual(near(tree, word, 0), [])

    def test_most_24_is_all_words(self):
        tree = tree_of(ANIMALS)
        for word in ("", "cat", "z" * 24):
            self.assertEqual(sorted(one for one, _ in near(tree, word, 24)), tree.words())

    def test_an_empty_tree(self):
        for word in ("", "cat", "a" * 24):
            for most in (0, 1, 24):
                self.assertEqual(near(Tree(), word, most), [])

    def test_the_empty_text(self):
        self.assertEqual(near(tree_of([""]), "", 0), [("", [])])
        self.assertEqual(near(tree_of([""]), "", 24), [("", [])])
        self.assertEqual(near(tree_of([""]), "ab", 1), [])
        self.assertEqual([word for word, _ in near(tree_of([""]), "ab", 2)], [""])
        self.assertEqual([word for word, _ in near(tree_of(["ab", "a", "abc"]), "", 2)], ["a", "ab"])

    def test_a_beginning_that_is_no_word_is_not_told(self):
        self.assertEqual(near(tree_of(["cats"]), "cat", 0), [])
        self.assertEqual([word for word, _ in near(tree_of(["cats"]), "cat", 24)], ["cats"])

    def test_words_of_24_letters(self):
        words = ["a" * 24, "b" * 24, "ab" * 12, "ba" * 12, ALPHABET[:24], ALPHABET[2:], "a" * 23, ""]
        tree = tree_of(words)
        for word in words:
            for most in (0, 1, 2, 4, 12, 23, 24):
                self.tells(tree, words, word, most)

    def test_by_chance(self):
        chance = random.Random(5)
        for letters, longest, many in (("ab", 6, 40), ("abc", 8, 60), ("abcd", 24, 30), (ALPHABET, 5, 100)):
            words = chance_words(chance, letters, longest, many)
            tree = tree_of(words)
            for word in words[:6] + chance_words(chance, letters, longest, 6):
                for most in (0, 1, 2, 3, 5, 8, 24):
                    self.tells(tree, words, word, most)

    def test_400_words(self):
        words = ["".join(letters) for letters in itertools.islice(itertools.product("abcd", repeat=5), 399)] + [""]
        tree = tree_of(words)
        for word in ("", "abcd", "dcbaa", "bbbbbbb"):
            for most in (0, 1, 3, 24):
                self.tells(tree, words, word, most)

    def test_after_puts_and_takes(self):
        tree = tree_of(["cat", "cats"])
        tree.put("car")
        self.tells(tree, ["cat", "cats", "car"], "cat", 1)
        tree.take("cat")
        self.tells(tree, ["cats", "car"], "cat", 1)
        self.assertEqual([word for word, _ in near(tree, "cat", 1)], ["car", "cats"])
        tree.take("cats")
        self.tells(tree, ["car"], "cat", 24)
        tree.put("cat")
        self.tells(tree, ["car", "cat"], "cat", 24)
        tree.take("cat")
        tree.take("car")
        self.tells(tree, [], "cat", 24)


class LookedTest(NearTestCase):
    def test_an_empty_tree(self):
        for word in ("", "cat", "a" * 24):
            for most in (0, 1, 24):
                self.assertEqual(looked(Tree(), word, most), 1)
        self.assertEqual(looked(tree_of([""]), "cat", 0), 1)

    def test_most_nought_is_the_beginnings_of_the_word(self):
        tree = tree_of(["cats", "car", "dog"])
        for word, many in (("", 1), ("c", 2), ("cat", 4), ("cats", 5), ("catsup", 5), ("dx", 2), ("zebra", 1)):
            self.assertEqual(looked(tree, word, 0), many)

    def test_most_one(self):
        # Of aa and its beginnings b lies one off; bb is one off none of them.
        self.assertEqual(looked(tree_of(["bbb"]), "aa", 1), 2)
        self.assertEqual(looked(tree_of(["abb"]), "aa", 1), 3)
        self.assertEqual(looked(tree_of(["aaaa"]), "aa", 1), 4)
        self.assertEqual(looked(tree_of(["aaaa"]), "", 1), 2)

    def test_most_24_is_every_node(self):
        tree = tree_of(ANIMALS + ["z" * 24])
        for word in ("", "cat", "a" * 24):
            self.assertEqual(looked(tree, word, 24), tree.nodes())

    def test_a_node_is_looked_at_for_a_beginning_of_the_word(self):
        # The node "ca" is two off "cats", but nought off its beginning "ca".
        self.assertEqual(looked(tree_of(["ca"]), "cats", 0), 3)
        self.assertEqual(near(tree_of(["ca"]), "cats", 1), [])

    def test_each_word_and_most(self):
        words = ["".join(letters) for many in range(4) for letters in itertools.product("ab", repeat=many)]
        for kept in (words, words[::3], words[5:8], ["aaa", "bab"], ["b" * 5]):
            tree = tree_of(kept)
            for word in words:
                for most in range(5):
                    self.tells(tree, kept, word, most)

    def test_nodes_of_words_that_were_taken_are_not_there(self):
        tree = tree_of(["cat", "cats", "dog"])
        tree.take("cats")
        tree.take("dog")
        self.assertEqual(looked(tree, "cats", 24), 4)
        tree.take("cat")
        self.assertEqual(looked(tree, "cats", 24), 1)

    def test_a_whole_number(self):
        self.assertIs(type(looked(Tree(), "", 0)), int)
        self.assertIs(type(looked(tree_of(ANIMALS), "cat", 2)), int)


class NothingIsChangedTest(NearTestCase):
    def test_the_same_is_told_each_time(self):
        tree = tree_of(ANIMALS)
        for most in (0, 1, 2, 24):
            first = near(tree, "cat", most)
            count = looked(tree, "cat", most)
            for _ in range(3):
                self.assertEqual(near(tree, "cat", most), first)
                self.assertEqual(looked(tree, "cat", most), count)

    def test_told_again_after_the_first_lists_were_emptied(self):
        tree = tree_of(ANIMALS)
        for most in (0, 1, 2, 24):
            first = near(tree, "cat", most)
            again = [(word, list(changes)) for word, changes in first]
            for _, changes in first:
                changes.clear()
                changes.append(None)
            first.clear()
            self.assertEqual(near(tree, "cat", most), again)
        near(Tree(), "cat", 1).append(None)
        self.assertEqual(near(Tree(), "cat", 1), [])

    def test_each_list_of_changes_is_its_own(self):
        told = near(tree_of(ANIMALS), "cat", 24) + near(tree_of(ANIMALS), "cat", 24)
        self.assertEqual(len({id(changes) for _, changes in told}), 2 * len(ANIMALS))

    def test_the_tree_is_as_it_was(self):
        tree = tree_of(ANIMALS)
        words, nodes = tree.words(), tree.nodes()
        for word in ("", "cat", "zebra", "z" * 24):
            for most in (0, 1, 24):
                near(tree, word, most).clear()
                looked(tree, word, most)
        self.assertEqual((tree.words(), tree.nodes(), tree.many()), (words, nodes, len(words)))

    def test_a_list_that_was_told_stays_as_it_was(self):
        tree = tree_of(["cat"])
        told = near(tree, "cat", 1)
        tree.put("car")
        tree.take("cat")
        self.assertEqual(told, [("cat", [])])


class RefusedTest(NearTestCase):
    def setUp(self):
        self.tree = tree_of(ANIMALS)
        self.words, self.nodes = self.tree.words(), self.tree.nodes()

    def tearDown(self):
        self.assertEqual(self.tree.words(), self.words)
        self.assertEqual(self.tree.nodes(), self.nodes)
        self.assertEqual(self.tree.many(), len(self.words))

    def test_what_is_no_word(self):
        for call in (near, looked):
            for thing in NO_WORDS:
                with self.subTest(call=call.__name__, thing=repr(thing)):
                    for most in (0, 1, 24):
                        self.refused(BadWord, call, self.tree, thing, most)
                        self.refused(BadWord, call, Tree(), thing, most)

    def test_what_is_no_most(self):
        for call in (near, looked):
            for thing in NO_MOSTS:
                with self.subTest(call=call.__name__, thing=repr(thing)):
                    for word in ("", "cat", "a" * 24):
                        self.refused(BadMost, call, self.tree, word, thing)
                        self.refused(BadMost, call, Tree(), word, thing)

    def test_both_at_once(self):
        for call in (near, looked):
            for thing in NO_WORDS:
                for most in (-1, 25, True, None, "1", [1], thing):
                    self.refused(BadWord, call, self.tree, thing, most)
            for most in NO_MOSTS:
                for thing in ("Cat", "a" * 25, None, 7):
                    self.refused(BadWord, call, self.tree, thing, most)

    def test_caught_by_their_bases(self):
        for call in (near, looked):
            for base in (NearError, ValueError):
                with self.assertRaises(base):
                    call(self.tree, "Cat", 1)
                with self.assertRaises(base):
                    call(self.tree, "cat", 25)

    def test_things_that_are_odd_to_ask(self):
        for call in (near, looked):
            self.refused(BadWord, call, self.tree, Odd(), 1)
            self.refused(BadMost, call, self.tree, "cat", Odd())
            self.refused(BadWord, call, self.tree, Odd(), Odd())

    def test_each_most_that_is_one(self):
        for call in (near, looked):
            for most in range(25):
                call(self.tree, "cat", most)

    def test_what_is_handed_in_is_as_it_was(self):
        letters, numbers = ["c", "a", "t"], [1]
        for call in (near, looked):
            self.refused(BadWord, call, self.tree, letters, numbers)
            self.refused(BadMost, call, self.tree, "cat", numbers)
        self.assertEqual((letters, numbers), (["c", "a", "t"], [1]))

    def test_a_refusal_leaves_no_trace(self):
        for call in (near, looked):
            before = call(self.tree, "cat", 2)
            self.refused(BadWord, call, self.tree, "CAT", 2)
            self.refused(BadMost, call, self.tree, "cat", 25)
            self.assertEqual(call(self.tree, "cat", 2), before)


if __name__ == "__main__":
    unittest.main()
