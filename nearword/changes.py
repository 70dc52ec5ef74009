"""Changes: a letter is put, cut or turned, one change behind the other."""

from nearword.errors import BadChange
from nearword.words import is_letter


def done(text, change):
    """Tell the text behind a change; refuse with BadChange what is no change of it."""
    if _is_form(change, "put", 3):
        return _put(text, change[1], change[2])
    if _is_form(change, "cut", 2):
        return _cut(text, change[1])
    if _is_form(change, "turn", 3):
        return _turn(text, change[1], change[2])
    raise BadChange("a change is a tuple: put, place, letter; cut, place; or turn, place, letter")


def led(text, changes):
    """Tell the text behind a list of changes, done one by one."""
    now = text
    for change in changes:
        now = done(now, change)
    return now


def _is_form(change, name, members):
    if not isinstance(change, tuple) or len(change) != members:
        return False
    # Only texts are compared: another thing's own == may answer anything.
    return isinstance(change[0], str) and change[0] == name


def _put(text, place, letter):
    # Behind the last letter there is one more place to put a letter at.
    _check_place(place, len(text) + 1)
    _check_letter(letter)
    return text[:place] + letter + text[place:]


def _cut(text, place):
    _check_place(place, len(text))
    return text[:place] + text[place + 1:]


def _turn(text, place, letter):
    _check_place(place, len(text))
    _check_letter(letter)
    if text[place] == letter:
        raise BadChange("a letter is not turned into itself")
    return text[:place] + letter + text[place + 1:]


def _check_place(place, many):
    # True and False would pass as the numbers one and nought.
    if not isinstance(place, int) or isinstance(place, bool):
        raise BadChange("a place is a whole number")
    if place < 0 or place >= many:
        raise BadChange("the word does not have this place")


def _check_letter(letter):
    if not is_letter(letter):
        raise BadChange("a letter is one from a to z")
