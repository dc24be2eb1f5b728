"""Whole deeds in walked form, of the least weight, with words of any length.

In walked form from a cell only one word U is free, which moves all cells alike. The words
U THEN A THEN "1", A one of "", "0", "2", "02", are its neighbors; they are all that has to
be looked at, for the weight is convex along every way of neighbors that does not turn back.
"""

from netsredrawn.moving import moved_rows
from netsredrawn.syllables import back_text, joined_text

TURNS = ("", "0", "2", "02")


def weight_of(deed):
    """How many characters 1 all words of a deed have together."""
    return sum([sum([word.count("1") for _, word in row]) for row in deed])


def _signs_of(deed):
    """How many characters all words of a deed have together."""
    return sum([sum([len(word) for _, word in row]) for row in deed])


def walked_rows(deed, root):
    """The walked form of a deed from a cell with U = "", and the renaming (CELLS, WORDS) that leads to it."""
    order = [root]
    spots = {root: 0}
    ways = {root: ""}
    at = 0
    while at < len(order):
        here = order[at]
        at += 1
        for row in deed:
            there, word = row[here]
            if there not in spots:
                spots[there] = len(order)
                ways[there] = joined_text(ways[here], word)
                order.append(there)
    rows = []
    for row in deed:
        steps = []
        for here in order:
            there, word = row[here]
            steps.append((spots[there], joined_text(joined_text(ways[here], word), back_text(ways[there]))))
        rows.append(tuple(steps))
    cells = range(len(deed[0]))
    return tuple(rows), (tuple([spots[cell] for cell in cells]), tuple([back_text(ways[cell]) for cell in cells]))


def _moved_alike(deed, word):
    """A deed all of whose cells are moved by one word."""
    return moved_rows(deed, [word] * len(deed[0]))


def _lightened(deed):
    """The pair of a deed of the least weight and the word that moves the deed to it."""
    mover = ""
    least = weight_of(deed)
    lighter = True
    while lighter:
        lighter = False
        for turn in TURNS:
            other = _moved_alike(deed, turn + "1")
            if weight_of(other) < least:
                deed, least, mover = other, weight_of(other), joined_text(mover, turn + "1")
                lighter = True
                break
    return deed, mover


def _level_ones(deed):
    """All deeds of the least weight, but for a last "0", "2" or "02", each with the word that moves to it."""
    least = weight_of(deed)
    found = [(deed, "")]
    at = 0
    while at < len(found):
        here, mover = found[at]
        # From all but the first one the neighbor with "" is the one from which it was met.
        turns = TURNS[min(at, 1):]
        at += 1
        for turn in turns:
            other = _moved_alike(here, turn + "1")
            if weight_of(other) == least:
                found.append((other, joined_text(mover, turn + "1")))
    return found


def least_moved(deed):
    """The least deed to which one word moves all cells of a deed: a pair (KEY, WORD).

    KEY is (WEIGHT, how many characters all words have together, the least deed).
    """
    light, mover = _lightened(deed)
    weight = weight_of(light)
    best = None
    for level, word in _level_ones(light):
        for turn in TURNS:
            other = _moved_alike(level, turn)
            key = (weight, _signs_of(other), other)
            if best is None or key < best[0]:
                best = (key, joined_text(joined_text(mover, word), turn))
    return best


def joined_renaming(renaming, other):
    """The renaming that does one and then another one."""
    cells, words = renaming
    other_cells, other_words = other
    told = [joined_text(word, other_words[cells[cell]]) for cell, word in enumerate(words)]
    return tuple([other_cells[cell] for cell in cells]), tuple(told)


def back_renaming(renaming):
    """The renaming that leads back."""
    cells, words = renaming
    many = len(cells)
    told = [0] * many
    backs = [""] * many
    for cell in range(many):
        told[cells[cell]] = cell
        backs[cells[cell]] = back_text(words[cell])
    return tuple(told), tuple(backs)


def least_from(deed, root):
    """The least deed in walked form from a cell: a pair of its KEY and the renaming that leads to it."""
    rows, (cells, words) = walked_rows(deed, root)
    key, mover = least_moved(rows)
    return key, (cells, tuple([joined_text(word, mover) for word in words]))


def least_forms(deed):
    """For each cell of a whole deed what least_from tells.

    All but the first one are found from the first one, for its words are short.
    """
    key, first = least_from(deed, 0)
    told = [(key, first)]
    for root in range(1, len(deed[0])):
        other_key, renaming = least_from(key[2], first[0][root])
        told.append((other_key, joined_renaming(first, renaming)))
    return told
