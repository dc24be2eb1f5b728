"""Walks: words read as the steps of a deed."""

from netsredrawn.deeds import need_deed
from netsredrawn.errors import TooGreat
from netsredrawn.syllables import back_text, coded, joined_text, put_codes, reduced_text, spelled_out
from netsredrawn.values import need_number_in, need_word

MOST_SIGNS = 20000


def need_cell(deed, cell):
    """The cell of a deed that was looked at."""
    return need_number_in(cell, 0, len(deed[0]) - 1)


def walked_codes(deed, cell, walk):
    """The pair of the cell to which a walk leads and the reduced row of codes that it gathers."""
    codes = []
    steps = {}
    for sign in reduced_text(walk):
        key = (sign, cell)
        cell, word = deed[int(sign)][cell]
        if key not in steps:
            steps[key] = coded(word)
        put_codes(codes, steps[key])
    return cell, codes


def _limited(codes):
    """The word of a reduced row of codes, if it is short enough to be told."""
    word = spelled_out(codes)
    if len(word) > MOST_SIGNS:
        raise TooGreat(MOST_SIGNS)
    return word


def cell_walks(deed, cell):
    """For each cell that steps reach from a cell its tree walk, in the walk order."""
    order = [cell]
    walks = {cell: ""}
    at = 0
    while at < len(order):
        here = order[at]
        at += 1
        for change in range(3):
            there = deed[change][here][0]
            if there not in walks:
                walks[there] = walks[here] + str(change)
                order.append(there)
    return walks


def closed_walks(deed, cell):
    """Reduced walks closed at a cell, none of them "", that make all others.

    Each goes to a cell by its tree walk, one step on, and back by the tree walk from there.
    """
    walks = cell_walks(deed, cell)
    told = {}
    for here in walks:
        for change in range(3):
            there = deed[change][here][0]
            walk = joined_text(reduced_text(walks[here] + str(change)), back_text(walks[there]))
            if walk != "" and back_text(walk) not in told:
                told[walk] = True
    return list(told)


def walked(deed, cell, walk):
    """The pair of the cell to which a walk leads from a cell and the word that it gathers."""
    need_deed(deed)
    need_cell(deed, cell)
    there, codes = walked_codes(deed, cell, need_word(walk))
    return there, _limited(codes)


def walk_order(deed, cell):
    """The cells to which steps lead from a cell, in the order in which they are met."""
    need_deed(deed)
    need_cell(deed, cell)
    return tuple(list(cell_walks(deed, cell)))


def tree_walks(deed, cell):
    """The tree walks of these cells, in this order."""
    need_deed(deed)
    need_cell(deed, cell)
    return tuple(list(cell_walks(deed, cell).values()))


def loops(deed, cell):
    """Loops at a cell: pairs of a closed walk and the word that it gathers."""
    need_deed(deed)
    need_cell(deed, cell)
    return tuple([(walk, _limited(walked_codes(deed, cell, walk)[1])) for walk in closed_walks(deed, cell)])
