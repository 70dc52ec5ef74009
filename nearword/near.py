"""Near words: the words of a tree that come of an asked word by few changes."""

from nearword.errors import BadMost
from nearword.tables import first_row, next_row, way
from nearword.words import MOST_LETTERS, check_word


def near(tree, word, most):
    """Tell the tree's words within a most of a word, the nearest first, each with changes that lead to it.

    Refuse with BadWord, behind that with BadMost.
    """
    found = []
    for text, kept, away in _looked_at(tree, word, most):
        if kept and away <= most:
            found.append((away, text))
    return [(text, way(word, text)) for away, text in sorted(found)]


def looked(tree, word, most):
    """Tell how many of the tree's nodes are looked at to find them; refuse as near does."""
    return len(_looked_at(tree, word, most))


def _looked_at(tree, word, most):
    # Of each node looked at: its text, whether this is a word of the tree,
    # and its distance from the asked word.
    check_word(word)
    _check_most(most)
    seen = []
    ahead = [("", tree.top(), first_row(word))]
    while ahead:
        text, node, row = ahead.pop()
        # Further down the tree no number of a row is less than the least here.
        if min(row) <= most:
            seen.append((text, node.kept, row[-1]))
            for letter, child in node.below.items():
                ahead.append((text + letter, child, next_row(row, letter, word)))
    return seen


def _check_most(thing):
    # True and False would pass as the numbers one and nought.
    if not isinstance(thing, int) or isinstance(thing, bool):
        raise BadMost("a most is a whole number")
    # No two words are further apart than the letters of the longest ones.
    if thing < 0 or thing > MOST_LETTERS:
        raise BadMost("a most is a number from 0 to 24")
