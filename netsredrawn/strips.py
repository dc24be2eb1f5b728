"""Strips: the cells of a deed that the steps of two changes join."""

from netsredrawn.deeds import need_deed
from netsredrawn.doing import need_made_flag
from netsredrawn.nets import need_net
from netsredrawn.rounds import need_pair
from netsredrawn.steps import cycle_from, word_action, word_step
from netsredrawn.syllables import back_text, joined_text


def _joined_cells(steps, cell):
    """The cells of a strip, ascending."""
    met = {cell: True}
    order = [cell]
    at = 0
    while at < len(order):
        for row in steps:
            there = row[order[at]][0]
            if there not in met:
                met[there] = True
                order.append(there)
        at += 1
    return sorted(order)


def _way(steps, cell, turn):
    """The cells from a cell on by steps in turn, until one leads to itself or to the first one.

    Told are the cells, what is gathered to the last one, and the word of the step that ends the way.
    """
    cells = [cell]
    gathered = ""
    there, word = steps[turn][cell]
    while there not in (cell, cells[-1]):
        cells.append(there)
        gathered = joined_text(gathered, word)
        turn = 1 - turn
        there, word = steps[turn][there]
    return tuple(cells), gathered, word


def _told_strip(steps, joined):
    """The strip of these cells."""
    ends = [cell for cell in joined if cell in (steps[0][cell][0], steps[1][cell][0])]
    if not ends:
        cells, gathered, word = _way(steps, joined[0], 0)
        return "ring", cells, (joined_text(gathered, word),)
    first = ends[0]
    turn = 0
    if steps[0][first][0] != first:
        turn = 1
    cells, gathered, word = _way(steps, first, 1 - turn)
    closed = joined_text(joined_text(gathered, word), back_text(gathered))
    return "row", cells, (steps[turn][first][1], closed)


def found_strips(deed, pair):
    """All strips of a deed, by their least cells."""
    steps = [deed[int(sign)] for sign in pair]
    met = {}
    found = []
    for cell in range(len(deed[0])):
        if cell not in met:
            joined = _joined_cells(steps, cell)
            found.append(_told_strip(steps, joined))
            for each in joined:
                met[each] = True
    return found


def strip_length(strip):
    """The length of a strip."""
    kind, cells, _ = strip
    if kind == "ring":
        return len(cells) // 2
    return len(cells)


def strip_closing(strip):
    """The closing of a strip."""
    kind, _, words = strip
    if kind == "ring":
        return words[0]
    return joined_text(words[0], words[1])


def _gathered_to(deed, pair, strip, cell):
    """What is gathered along a strip from its first cell to a cell of it."""
    steps = [deed[int(sign)] for sign in pair]
    cells = strip[1]
    gathered = ""
    for at in range(cells.index(cell)):
        here, there = cells[at], cells[at + 1]
        # In a ring of two cells both steps lead to the other one: the first one is meant.
        if steps[0][here][0] == there:
            gathered = joined_text(gathered, steps[0][here][1])
        else:
            gathered = joined_text(gathered, steps[1][here][1])
    return gathered


def strips(deed, pair):
    """All strips of the deed for a pair of changes, by their least cells."""
    need_deed(deed)
    return tuple(found_strips(deed, need_pair(pair)))


def round_degree(deed, net, pair, flag):
    """The degree of the round to which a flag of what is done belongs."""
    need_deed(deed)
    need_net(net)
    need_pair(pair)
    need_made_flag(deed, net, flag)
    many = len(deed[0])
    for strip in found_strips(deed, pair):
        if flag % many in strip[1]:
            gathered = _gathered_to(deed, pair, strip, flag % many)
            first = word_step(net, flag // many, back_text(gathered))
            return strip_length(strip) * len(cycle_from(word_action(net, strip_closing(strip)), first))
    return None
