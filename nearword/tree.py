"""The tree of letters that keeps words."""

from nearword.errors import Full
from nearword.words import check_word

MOST_WORDS = 400


class Node:
    """The place in a tree of one beginning of its words."""

    def __init__(self):
        # The nodes whose texts have one letter more, by that letter.
        self.below = {}
        # Whether the node's text is itself a word of the tree.
        self.kept = False


class Tree:
    """Words, none twice, in a tree with one node for each of their beginnings."""

    def __init__(self):
        self._top = Node()
        self._many = 0

    def put(self, word):
        """Keep a word; tell whether it is new. Refuse with BadWord, and with Full where there is no room."""
        if self.has(word):
            return False
        if self._many >= MOST_WORDS:
            raise Full("as many words are there as a tree keeps")
        node = self._top
        for letter in word:
            if letter not in node.below:
                node.below[letter] = Node()
            node = node.below[letter]
        node.kept = True
        self._many += 1
        return True

    def take(self, word):
        """Keep a word no more; tell whether it was there. Refuse with BadWord."""
        if not self.has(word):
            return False
        path = _path(self._top, word)
        node = path[-1]
        node.kept = False
        self._many -= 1
        _prune(path, word)
        return True

    def has(self, word):
        """Tell whether a word is there; refuse with BadWord."""
        check_word(word)
        path = _path(self._top, word)
        return len(path) > len(word) and path[-1].kept

    def words(self):
        """Tell the words in their order."""
        return _words_from(self._top, "")

    def begun(self, begin):
        """Tell in their order the words that a word is a beginning of; refuse with BadWord."""
        check_word(begin)
        path = _path(self._top, begin)
        if len(path) <= len(begin):
            return []
        return _words_from(path[-1], begin)

    def many(self):
        """Tell how many words there are."""
        return self._many

    def nodes(self):
        """Tell how many nodes there are."""
        return _count(self._top)

    def top(self):
        """Tell the empty text's node."""
        return self._top


def _path(top, word):
    # One node more than the word has letters, or fewer where the tree does
    # not go on: the word is no beginning of its words then.
    path = [top]
    for letter in word:
        node = path[-1]
        if letter not in node.below:
            return path
        path.append(node.below[letter])
    return path


def _prune(path, word):
    # The top is not among them: the empty text's node stays even without words.
    for at in reversed(range(len(word))):
        node = path[at + 1]
        if node.kept or node.below:
            return
        parent = path[at]
        del parent.below[word[at]]


def _words_from(node, text):
    words = []
    if node.kept:
        words.append(text)
    for letter in sorted(node.below):
        words.extend(_words_from(node.below[letter], text + letter))
    return words


def _count(node):
    return 1 + sum(_count(child) for child in node.below.values())
