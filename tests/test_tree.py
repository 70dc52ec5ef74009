"""Point 8: trees; points 1, 2, 3 and 11, as far as they speak of them."""

import itertools
import random
import unittest

from nearword.errors import BadWord, Full, NearError
from nearword.tree import MOST_WORDS, Tree

ALPHABET = "abcdefghijklmnopqrstuvwxyz"

NO_WORDS = (
    "A", "Cat", "caT", "c t", " ", " cat", "cat ", "1", "c-t", "cat.", "~", "`", "{", "@", "a" * 25, ALPHABET,
    "a" * 24 + "A", None, 0, 1, -1, 24, 1.5, True, False, [], ["c", "a", "t"], ["cat"], (), ("cat",), {},
    {"cat": True}, set(), {"cat"}, frozenset("cat"), b"", b"cat", bytearray(b"cat"), range(3), object(), str, len,
)


def tree_of(words):
    tree = Tree()
    for word in words:
        tree.put(word)
    return tree


def beginnings(words):
    """Every beginning of the words, and the empty text."""
    return {word[:many] for word in words for many in range(len(word) + 1)} | {""}


def number_words(many):
    """As many different words of three letters."""
    return ["".join(letters) for letters in itertools.islice(itertools.product(ALPHABET, repeat=3), many)]


class TreeTestCase(unittest.TestCase):
    def holds(self, tree, words):
        """The tree has just these words, by all that it tells."""
        words = sorted(set(words))
        self.assertEqual(tree.words(), words)
        self.assertEqual(tree.begun(""), words)
        self.assertEqual(tree.many(), len(words))
        self.assertEqual(tree.nodes(), len(beginnings(words)))
        for word in words:
            self.assertIs(tree.has(word), True)

    def refused(self, kind, call, *handed):
        with self.assertRaises(kind) as caught:
            call(*handed)
        self.assertIs(type(caught.exception), kind)


class PutTest(TreeTestCase):
    def test_new_or_there(self):
        tree = Tree()
        self.assertIs(tree.put("cat"), True)
        self.assertIs(tree.put("cat"), False)
        self.assertIs(tree.put("car"), True)
        self.assertIs(tree.put("cat"), False)
        self.holds(tree, ["cat", "car"])

    def test_a_beginning_of_a_word_is_not_there_yet(self):
        tree = tree_of(["cats"])
        for word in ("cat", "ca", "c", ""):
            self.assertIs(tree.has(word), False)
            self.assertIs(tree.put(word), True)
            self.assertIs(tree.put(word), False)
        self.holds(tree, ["cats", "cat", "ca", "c", ""])

    def test_a_word_that_goes_on(self):
        tree = tree_of(["", "c"])
        self.assertIs(tree.put("cat"), True)
        self.assertIs(tree.has("ca"), False)
        self.holds(tree, ["", "c", "cat"])

    def test_the_empty_text(self):
        tree = Tree()
        self.assertIs(tree.put(""), True)
        self.assertIs(tree.put(""), False)
        self.holds(tree, [""])

    def test_of_24_letters(self):
        tree = Tree()
        for word in ("z" * 24, ALPHABET[:24], ALPHABET[2:]):
            self.assertIs(tree.put(word), True)
            self.assertIs(tree.put(word), False)
        self.holds(tree, ["z" * 24, ALPHABET[:24], ALPHABET[2:]])
        self.assertEqual(tree.nodes(), 1 + 3 * 24)


class TakeTest(TreeTestCase):
    def test_there_or_not(self):
        tree = tree_of(["cat", "car"])
        self.assertIs(tree.take("cat"), True)
        self.assertIs(tree.has("cat"), False)
        self.assertIs(tree.take("cat"), False)
        self.holds(tree, ["car"])

    def test_of_an_empty_tree(self):
        tree = Tree()
        for word in ("", "a", "a" * 24):
            self.assertIs(tree.take(word), False)
        self.holds(tree, [])

    def test_a_beginning_that_is_no_word(self):
        tree = tree_of(["cats", "dog"])
        for word in ("cat", "ca", "c", "", "do"):
            self.assertIs(tree.take(word), False)
        self.holds(tree, ["cats", "dog"])

    def test_what_goes_on_behind_a_word(self):
        tree = tree_of(["cat"])
        for word in ("cats", "catcat", "catz", "dog"):
            self.assertIs(tree.take(word), False)
        self.holds(tree, ["cat"])

    def test_a_word_that_another_goes_on_from(self):
        tree = tree_of(["cat", "cats"])
        self.assertIs(tree.take("cat"), True)
        self.holds(tree, ["cats"])
        self.assertEqual(tree.nodes(), 5)

    def test_a_word_that_goes_on_from_another(self):
        tree = tree_of(["cat", "cattle"])
        self.assertIs(tree.take("cattle"), True)
        self.holds(tree, ["cat"])
        self.assertEqual(tree.nodes(), 4)

    def test_a_word_whose_beginnings_others_need(self):
        tree = tree_of(["cart", "cat", "dog"])
        self.assertEqual(tree.nodes(), 9)
        self.assertIs(tree.take("cart"), True)
        self.holds(tree, ["cat", "dog"])
        self.assertEqual(tree.nodes(), 7)

    def test_the_empty_text(self):
        tree = tree_of(["", "a"])
        self.assertIs(tree.take(""), True)
        self.assertIs(tree.take(""), False)
        self.holds(tree, ["a"])

    def test_all_words_in_any_order(self):
        words = ["", "a", "ab", "abc", "b", "bc"]
        for order in itertools.permutations(words):
            tree = tree_of(words)
            for at, word in enumerate(order):
                self.assertIs(tree.take(word), True)
                self.assertEqual(tree.words(), sorted(order[at + 1:]))
                self.assertEqual(tree.nodes(), len(beginnings(order[at + 1:])))
            self.holds(tree, [])
            self.assertEqual(tree.nodes(), 1)

    def test_put_again(self):
        tree = tree_of(["cat", "cats"])
        self.assertIs(tree.take("cat"), True)
        self.assertIs(tree.put("cat"), True)
        self.assertIs(tree.put("cat"), False)
        self.holds(tree, ["cat", "cats"])


class HasTest(TreeTestCase):
    def test_of_an_empty_tree(self):
        for word in ("", "a", "a" * 24):
            self.assertIs(Tree().has(word), False)

    def test_words_and_no_words_of_it(self):
        tree = tree_of(["cat", "do", "dog"])
        for word in ("cat", "do", "dog"):
            self.assertIs(tree.has(word), True)
        for word in ("", "c", "ca", "cats", "d", "dogs", "at", "og", "cot", "z"):
            self.assertIs(tree.has(word), False)

    def test_asking_keeps_nothing(self):
        tree = tree_of(["cat"])
        tree.has("dog")
        tree.has("cats")
        tree.begun("dog")
        tree.take("dog")
        self.holds(tree, ["cat"])
        self.assertEqual(tree.nodes(), 4)


class WordsTest(TreeTestCase):
    def test_of_an_empty_tree(self):
        tree = Tree()
        self.assertEqual(tree.words(), [])
        self.assertIs(type(tree.words()), list)

    def test_the_first_place_at_which_they_differ(self):
        self.assertEqual(tree_of(["b", "aaaa", "c", "az", "aab"]).words(), ["aaaa", "aab", "az", "b", "c"])

    def test_a_beginning_stands_ahead(self):
        self.assertEqual(tree_of(["abc", "ab", "a", "", "abd"]).words(), ["", "a", "ab", "abc", "abd"])

    def test_however_they_were_put(self):
        words = ["", "a", "ab", "abc", "b"]
        for order in itertools.permutations(words):
            self.assertEqual(tree_of(order).words(), words)

    def test_each_letter(self):
        self.assertEqual(tree_of(reversed(ALPHABET)).words(), list(ALPHABET))
        self.assertEqual(tree_of("m" + letter for letter in reversed(ALPHABET)).begun("m"),
                         ["m" + letter for letter in ALPHABET])

    def test_told_again_after_the_first_list_was_emptied(self):
        tree = tree_of(["cat", "car"])
        tree.words().clear()
        self.assertEqual(tree.words(), ["car", "cat"])
        tree.words().append("dog")
        self.holds(tree, ["car", "cat"])
        Tree().words().append("dog")
        self.assertEqual(Tree().words(), [])

    def test_a_list_that_was_told_stays_as_it_was(self):
        tree = tree_of(["cat"])
        words = tree.words()
        begun = tree.begun("c")
        tree.put("car")
        tree.take("cat")
        self.assertEqual(words, ["cat"])
        self.assertEqual(begun, ["cat"])


class BegunTest(TreeTestCase):
    def test_in_order(self):
        tree = tree_of(["cats", "dog", "cat", "car", "ca", "do", "cattle", "acat"])
        self.assertEqual(tree.begun("cat"), ["cat", "cats", "cattle"])
        self.assertEqual(tree.begun("ca"), ["ca", "car", "cat", "cats", "cattle"])
        self.assertEqual(tree.begun("c"), ["ca", "car", "cat", "cats", "cattle"])
        self.assertEqual(tree.begun("d"), ["do", "dog"])
        self.assertEqual(tree.begun("a"), ["acat"])

    def test_the_word_itself_alone(self):
        self.assertEqual(tree_of(["cat"]).begun("cat"), ["cat"])
        self.assertEqual(tree_of(["a" * 24]).begun("a" * 24), ["a" * 24])

    def test_none(self):
        tree = tree_of(["cat", "dog"])
        for begin in ("cats", "cot", "at", "t", "z", "a" * 24):
            self.assertEqual(tree.begun(begin), [])
            self.assertIs(type(tree.begun(begin)), list)
        self.assertEqual(Tree().begun("a"), [])

    def test_the_empty_text_begins_all(self):
        self.assertEqual(tree_of(["b", "", "a"]).begun(""), ["", "a", "b"])
        self.assertEqual(Tree().begun(""), [])

    def test_a_beginning_that_was_taken(self):
        tree = tree_of(["cat", "cats"])
        tree.take("cat")
        self.assertEqual(tree.begun("cat"), ["cats"])
        tree.take("cats")
        self.assertEqual(tree.begun("cat"), [])

    def test_told_again_after_the_first_list_was_emptied(self):
        tree = tree_of(["cat", "car"])
        for begin in ("", "ca", "cat", "dog"):
            again = list(tree.begun(begin))
            tree.begun(begin).clear()
            tree.begun(begin).append("dog")
            self.assertEqual(tree.begun(begin), again)
        self.holds(tree, ["cat", "car"])


class CountsTest(TreeTestCase):
    def test_of_an_empty_tree(self):
        self.assertEqual((Tree().many(), Tree().nodes()), (0, 1))

    def test_of_the_empty_text_alone(self):
        self.assertEqual((tree_of([""]).many(), tree_of([""]).nodes()), (1, 1))

    def test_of_words_with_common_beginnings(self):
        tree = Tree()
        for word, nodes in (("cat", 4), ("ca", 4), ("car", 5), ("", 5), ("dog", 8), ("cats", 9), ("at", 11)):
            tree.put(word)
            tree.put(word)
            self.assertEqual(tree.nodes(), nodes)
        self.assertEqual(tree.many(), 7)

    def test_whole_numbers(self):
        for tree in (Tree(), tree_of(["cat"])):
            self.assertIs(type(tree.many()), int)
            self.assertIs(type(tree.nodes()), int)

    def test_after_many_puts_and_takes(self):
        chance = random.Random(11)
        tree = Tree()
        there = set()
        for _ in range(3000):
            word = "".join(chance.choice("abc") for _ in range(chance.randint(0, 4)))
            if chance.randint(0, 1):
                self.assertIs(tree.put(word), word not in there)
                there.add(word)
            else:
                self.assertIs(tree.take(word), word in there)
                there.discard(word)
            self.assertIs(tree.has(word), word in there)
            self.assertEqual(tree.many(), len(there))
            self.assertEqual(tree.nodes(), len(beginnings(there)))
            begin = word[:1]
            self.assertEqual(tree.begun(begin), sorted(one for one in there if one.startswith(begin)))
        self.holds(tree, there)


class TwoTreesTest(TreeTestCase):
    def test_they_do_not_mix(self):
        one, other = Tree(), Tree()
        one.put("cat")
        self.holds(one, ["cat"])
        self.holds(other, [])
        self.assertIs(other.put("cat"), True)
        other.put("dog")
        self.assertIs(one.take("cat"), True)
        self.holds(one, [])
        self.holds(other, ["cat", "dog"])
        self.holds(Tree(), [])

    def test_one_that_is_full(self):
        full = tree_of(number_words(400))
        other = Tree()
        self.refused(Full, full.put, "dog")
        self.assertIs(other.put("dog"), True)
        self.holds(other, ["dog"])


class FullTest(TreeTestCase):
    def setUp(self):
        self.there = number_words(400)
        self.tree = tree_of(self.there)

    def test_most_words(self):
        self.assertIs(type(MOST_WORDS), int)
        self.assertEqual(MOST_WORDS, 400)

    def test_each_of_400_is_new(self):
        tree = Tree()
        for at, word in enumerate(self.there):
            self.assertIs(tree.put(word), True)
            self.assertEqual(tree.many(), at + 1)
        self.holds(tree, self.there)

    def test_the_401st_is_refused_and_changes_nothing(self):
        # New nodes, nodes that are there, a word that goes on, the empty text.
        for word in ("zzz", "a", "aa", "", self.there[0] + "s", "z" * 24):
            for _ in range(2):
                self.refused(Full, self.tree.put, word)
                self.assertIs(self.tree.has(word), False)
                self.holds(self.tree, self.there)

    def test_it_is_caught_by_its_bases(self):
        for base in (NearError, ValueError):
            with self.assertRaises(base):
                self.tree.put("zzz")

    def test_what_is_there_is_not_refused(self):
        for word in self.there:
            self.assertIs(self.tree.put(word), False)
        self.holds(self.tree, self.there)

    def test_what_is_no_word_is_refused_as_such(self):
        for thing in NO_WORDS:
            self.refused(BadWord, self.tree.put, thing)
        self.holds(self.tree, self.there)

    def test_room_again_after_one_was_taken(self):
        self.assertIs(self.tree.take(self.there[7]), True)
        self.assertIs(self.tree.put("zzz"), True)
        self.refused(Full, self.tree.put, self.there[7])
        now = [word for word in self.there if word != self.there[7]] + ["zzz"]
        self.holds(self.tree, now)
        self.assertIs(self.tree.take("zzz"), True)
        self.assertIs(self.tree.put(self.there[7]), True)
        self.refused(Full, self.tree.put, "zzz")
        self.holds(self.tree, self.there)

    def test_no_room_where_none_was_taken(self):
        self.assertIs(self.tree.take("zzz"), False)
        self.refused(Full, self.tree.put, "zzz")
        self.holds(self.tree, self.there)

    def test_400_long_words(self):
        words = [first + second + "m" * 22 for first in ALPHABET[:20] for second in ALPHABET[:20]]
        tree = tree_of(words)
        self.holds(tree, words)
        self.assertEqual(tree.nodes(), 1 + 20 + 400 * 23)
        self.refused(Full, tree.put, "z" * 24)
        for word in words:
            self.assertIs(tree.take(word), True)
        self.holds(tree, [])


class RefusedTest(TreeTestCase):
    def test_what_is_no_word(self):
        for words in ((), ("cat", "car", ""), ("a" * 24,)):
            tree = tree_of(words)
            for thing in NO_WORDS:
                with self.subTest(words=words, thing=repr(thing)):
                    for call in (tree.put, tree.take, tree.has, tree.begun):
                        self.refused(BadWord, call, thing)
            self.holds(tree, words)

    def test_caught_by_its_bases(self):
        tree = Tree()
        for call in (tree.put, tree.take, tree.has, tree.begun):
            for base in (NearError, ValueError):
                with self.assertRaises(base):
                    call("Cat")

    def test_25_letters_behind_a_word_of_24(self):
        tree = tree_of(["a" * 24])
        for call in (tree.put, tree.take, tree.has, tree.begun):
            self.refused(BadWord, call, "a" * 25)
        self.holds(tree, ["a" * 24])

    def test_what_is_handed_in_is_as_it_was(self):
        tree = tree_of(["cat"])
        letters = ["c", "a", "t"]
        for call in (tree.put, tree.take, tree.has, tree.begun):
            self.refused(BadWord, call, letters)
        self.assertEqual(letters, ["c", "a", "t"])


if __name__ == "__main__":
    unittest.main()
