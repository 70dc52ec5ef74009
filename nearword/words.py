"""What a word is."""

from nearword.errors import BadWord

LETTERS = "abcdefghijklmnopqrstuvwxyz"
MOST_LETTERS = 24


def is_letter(thing):
    """Tell of any thing whether it is one letter from a to z."""
    # Texts of no letter or of several neighbours lie in LETTERS, too.
    return isinstance(thing, str) and len(thing) == 1 and thing in LETTERS


def is_word(thing):
    """Tell of any thing whether it is a word: 0 to 24 letters, each from a to z."""
    if not isinstance(thing, str) or len(thing) > MOST_LETTERS:
        return False
    return all(is_letter(sign) for sign in thing)


def check_word(thing):
    """Refuse with BadWord what is no word."""
    if not is_word(thing):
        raise BadWord("a word is a text of 0 to 24 letters, each from a to z")
