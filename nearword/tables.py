"""Tables: the distances of the beginnings of two words, and the changes between the words."""

from nearword.words import check_word


def first_row(word):
    """Tell the distances of the empty text from each beginning of a word, the shortest first."""
    return list(range(len(word) + 1))


def next_row(above, letter, word):
    """Tell the distances of a text from each beginning of a word, the shortest first.

    The text ends in the letter; above is the row of the text without it.
    """
    row = [above[0] + 1]
    for at, sign in enumerate(word):
        unlike = 0 if sign == letter else 1
        row.append(min(row[at] + 1, above[at + 1] + 1, above[at] + unlike))
    return row


def table(one, other):
    """Tell the distance of each beginning of one word, by rows, from each of the other; refuse with BadWord."""
    check_word(one)
    check_word(other)
    rows = [first_row(other)]
    for letter in one:
        rows.append(next_row(rows[-1], letter, other))
    return rows


def distance(one, other):
    """Tell the fewest changes that lead from one word to the other; refuse with BadWord."""
    return table(one, other)[-1][-1]


def way(one, other):
    """Tell changes that lead from one word to the other, as many as their distance; refuse with BadWord."""
    rows = table(one, other)
    changes = []
    down = len(one)
    across = len(other)
    # From the end to the beginning: the word is one[:down] + other[across:]
    # then, so that the places up to down are the same as in one.
    while down > 0 or across > 0:
        here = rows[down][across]
        if down > 0 and across > 0 and one[down - 1] == other[across - 1]:
            down -= 1
            across -= 1
        elif down > 0 and across > 0 and rows[down - 1][across - 1] + 1 == here:
            changes.append(("turn", down - 1, other[across - 1]))
            down -= 1
            across -= 1
        elif down > 0 and rows[down - 1][across] + 1 == here:
            changes.append(("cut", down - 1))
            down -= 1
        else:
            changes.append(("put", down, other[across - 1]))
            across -= 1
    return changes
