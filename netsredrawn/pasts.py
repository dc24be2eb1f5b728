"""What a whole deed made: the cells behind flags or cells, and what was there ahead, unchecked.

Steps are given as rows of pairs (PLACE, WORD): those of a deed, or those of a net with "" for
each word. They must lead from place 0 to every place. To go back behind a deed each place gets
a cell of the deed, so that steps lead alike. Then it stands for this cell of some place of what
was there ahead; folded together along the words of the deed, these places are found.
"""

from netsredrawn.cellwebs import CellWeb, Walks, is_whole_rows
from netsredrawn.deeds import rule_behind_form
from netsredrawn.least import least_rows
from netsredrawn.renamings import is_led
from netsredrawn.sequence import after_rows
from netsredrawn.syllables import coded


def net_steps(net):
    """The steps of a net, none of which gathers anything."""
    return tuple([tuple([(there, "") for there in row]) for row in net])


def _cells_from(steps, deed, cell):
    """The cells of all places if place 0 has this one, or None where steps do not lead alike."""
    cells = {0: cell}
    order = [0]
    at = 0
    while at < len(order):
        here = order[at]
        at += 1
        for change in range(3):
            there = steps[change][here][0]
            told = deed[change][cells[here]][0]
            if there not in cells:
                cells[there] = told
                order.append(there)
            elif cells[there] != told:
                return None
    return [cells[place] for place in range(len(steps[0]))]


def all_cells(steps, deed):
    """All rows of cells, one for each place, so that steps lead alike."""
    told = [_cells_from(steps, deed, cell) for cell in range(len(deed[0]))]
    return [cells for cells in told if cells is not None]


def folded_web(steps, deed, cells):
    """The web of the places, folded along the words of the deed, and the node of each place."""
    web = CellWeb(Walks())
    nodes = [0]
    while len(nodes) < len(cells):
        nodes.append(web.new_square())
    for change in range(3):
        for here, (there, word) in enumerate(steps[change]):
            if here <= there:
                row = None
                if word != "":
                    row = word
                web.add_path(nodes[here], nodes[there], coded(deed[change][cells[here]][1]), row)
    web.fold()
    return web, nodes


def step_from(web, node, change):
    """The pair of the node to which a change leads from one, and the word that it gathers; None if nowhere."""
    row = None
    if change != 1:
        there = node ^ (change // 2 + 1)
    elif web.ones[node] is None:
        return None
    else:
        there, row = web.ones[node]
    there, gap = web.found(there)
    row = web.papers.joined(row, gap)
    if row is None:
        return there, ""
    return there, row


def _web_steps(web, most):
    """The steps of what was there ahead, by the nodes in the order in which they are met; at most so many."""
    order = [web.found(0)[0]]
    spots = {order[0]: 0}
    rows = [[], [], []]
    at = 0
    while at < len(order) and len(order) <= most:
        for change in range(3):
            told = step_from(web, order[at], change)
            if told is None:
                return None
            there, word = told
            if there not in spots:
                spots[there] = len(order)
                order.append(there)
            rows[change].append((spots[there], word))
        at += 1
    if len(order) != most:
        return None
    return tuple([tuple(row) for row in rows]), spots


def past_steps(steps, deed, cells):
    """What was there ahead, if the places have these cells: (STEPS, SPOTS, WORDS), or None.

    SPOTS tells the place ahead for which each place stands, WORDS the word that leads from the
    place to it. Whether the deed makes the steps of STEPS is not looked at.
    """
    many = len(deed[0])
    if len(cells) % many != 0:
        return None
    web, nodes = folded_web(steps, deed, cells)
    told = _web_steps(web, len(cells) // many)
    if told is None:
        return None
    rows, spots = told
    places, words = [], []
    for node in nodes:
        there, gap = web.found(node)
        places.append(spots[there])
        if gap is None:
            gap = ""
        words.append(gap)
    return rows, places, words


def _past_deed(told, deed, cells):
    """The deed behind a deed if its cells have these cells, or None."""
    past = past_steps(told, deed, cells)
    if past is None:
        return None
    rows, spots, words = past
    many = len(deed[0])
    images = [spot * many + cell for spot, cell in zip(spots, cells)]
    if sorted(images) != list(range(len(cells))) or rule_behind_form(rows) is not None:
        return None
    made = after_rows(rows, deed)
    for cell in range(len(cells)):
        if not is_led(told, made, (images, words), cell):
            return None
    return rows


def past_deeds(deed, told):
    """The least deeds, words of any length, of all from which the whole deed leads to a whole one, ascending."""
    found = {}
    for cells in all_cells(told, deed):
        rows = _past_deed(told, deed, cells)
        if rows is not None and is_whole_rows(rows):
            found[least_rows(rows)] = True
    return sorted(found)
