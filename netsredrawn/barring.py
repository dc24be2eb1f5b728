"""Why a flag stands for cell 0 in no source of a joined net by a whole deed, unchecked.

The flags are folded together along the words of the deed, as far as the source would have it,
and the walks by which they come together are told. Such walks may be very long. Those that are
made of homes are bounded: flags of cell 0 are led to one another by homes as changes would
lead the flags of the source; walks from cell 0 to cell 0 that gather "" must leave them, and
what makes all of these is looked at: each walk against the homes that gather the same, and the
rules of changes.
"""

from netsredrawn.errors import TooGreat
from netsredrawn.pasts import all_cells, folded_web, net_steps, step_from
from netsredrawn.steps import word_action
from netsredrawn.syllables import back_text, joined_text, reduced_text, spelled_out
from netsredrawn.walks import cell_walks, closed_walks, walked_codes

MOST_SIGNS = 20000
SHORT_HOME = 12


def _limited(walk):
    """The walk, if it is short enough to be told."""
    if len(walk) > MOST_SIGNS:
        raise TooGreat(MOST_SIGNS)
    return walk


def _short_walks(deed):
    """For each word that a walk of at most twelve characters from cell 0 to cell 0 gathers a shortest one."""
    met = {(0, ""): ""}
    order = [(0, "")]
    at = 0
    while at < len(order) and len(met[order[at]]) < SHORT_HOME:
        cell, gathered = order[at]
        walk = met[order[at]]
        at += 1
        for change in range(3):
            there, word = deed[change][cell]
            key = (there, joined_text(gathered, word))
            if key not in met:
                met[key] = walk + str(change)
                order.append(key)
    return {gathered: reduced_text(met[cell, gathered]) for cell, gathered in met if cell == 0}


def _short_homes(deed):
    """Homes of a deed, of at most twelve characters, or None where there are none such."""
    short = _short_walks(deed)
    if "0" in short and "1" in short and "2" in short:
        return [short["0"], short["1"], short["2"]]
    return None


def _homeward(homes, word):
    """What homes, in the place of changes, make of a word."""
    told = ""
    for sign in word:
        told = joined_text(told, homes[int(sign)])
    return told


def _like_walks(deed, homes):
    """Pairs of walks from cell 0 to cell 0, each of which gathers what the other one does."""
    pairs = [(home, back_text(home)) for home in homes]
    pairs.append((joined_text(homes[0], homes[2]), joined_text(homes[2], homes[0])))
    for walk in closed_walks(deed, 0):
        gathered = spelled_out(walked_codes(deed, 0, walk)[1])
        pairs.append((walk, _homeward(homes, gathered)))
    # Shorter pairs make shorter walks.
    return [pair for _, pair in sorted([(len(each[0]) + len(each[1]), each) for each in pairs])]


def _moved_rows(net, flags, pairs):
    """The rows of the flags of cell 0 by a walk that gathers "" and moves one of them, or None."""
    for walk, other in pairs:
        there, other_there = word_action(net, walk), word_action(net, other)
        for flag in flags:
            if there[flag] != other_there[flag]:
                return _carried_rows(net, flags, flag, "moved", joined_text(walk, back_text(other)))
    return None


def _mirror_rows(net, flags, homes):
    """The rows of the flags of cell 0 by a home that leaves one of them, or None."""
    for walk in homes + [joined_text(homes[0], homes[2])]:
        there = word_action(net, walk)
        for flag in flags:
            if there[flag] == flag:
                return _carried_rows(net, flags, flag, "mirror", walk)
    return None


def _carried_rows(net, flags, root, kind, walk):
    """The rows of all flags of cell 0, each by the way to one of them, a walk there, and the way back."""
    ways = cell_walks(net_steps(net), root)
    rows = {}
    for flag in flags:
        way = reduced_text(ways[flag])
        rows[flag] = (kind, _limited(joined_text(joined_text(back_text(way), walk), way)))
    return rows


def _pair_walks(net, deed, flag):
    """For each pair of a flag and a cell to which steps lead from a flag and cell 0 the first walk there."""
    walks = {(flag, 0): ""}
    order = [(flag, 0)]
    at = 0
    while at < len(order):
        here, cell = order[at]
        walk = walks[order[at]]
        at += 1
        for change in range(3):
            key = (net[change][here], deed[change][cell][0])
            if key not in walks:
                walks[key] = walk + str(change)
                order.append(key)
    return walks


def _away_rows(net, deed, root):
    """The rows of flags by walks that come back to the flag, but not to cell 0."""
    walks = _pair_walks(net, deed, root)
    rows = {}
    for flag, cell in walks:
        if cell != 0 and flag not in rows and (flag, 0) in walks:
            way = reduced_text(walks[flag, 0])
            rows[flag] = ("away", _limited(joined_text(back_text(way), reduced_text(walks[flag, cell]))))
    return rows


def _homely_rows(net, deed, flags):
    """The rows of the flags of cell 0 by walks made of homes, or None if there is a source."""
    homes = _short_homes(deed)
    if homes is None:
        raise TooGreat(MOST_SIGNS)
    rows = _moved_rows(net, flags, _like_walks(deed, homes))
    if rows is None:
        rows = _mirror_rows(net, flags, homes)
    return rows


def _walk_steps(net):
    """The steps of a net, each of which gathers itself as a walk."""
    return tuple([tuple([(there, str(change)) for there in row]) for change, row in enumerate(net)])


def _found_place(web, node):
    """The pair of the place of a node and the walk that leads there."""
    there, walk = web.found(node)
    if walk is None:
        return there, ""
    return there, walk


def _folded_rows(flags, places):
    """The rows of flags of cell 0 of which some have one place."""
    rows = {}
    for flag in flags:
        there, walk = places[flag]
        others = [places[other][1] for other in flags if other != flag and places[other][0] == there]
        _, other_walk = min([(len(other), other) for other in others])
        rows[flag] = ("moved", _limited(joined_text(walk, back_text(other_walk))))
    return rows


def _still_walks(web, there):
    """The walks that gather a change, or the changes 0 and 2, and lead from a place to itself."""
    steps = [step_from(web, there, change) for change in range(3)]
    second = step_from(web, steps[0][0], 2)
    steps.append((second[0], joined_text(steps[0][1], second[1])))
    return [walk for end, walk in steps if end == there]


def _web_rows(net, deed, cells, flags):
    """The rows of the flags of cell 0 by walks on which flags come together, or None if there is a source."""
    web, nodes = folded_web(_walk_steps(net), deed, cells)
    places = {flag: _found_place(web, nodes[flag]) for flag in flags}
    met = {places[flag][0]: True for flag in flags}
    if len(met) < len(flags):
        return _folded_rows(flags, places)
    for flag in flags:
        there, way = places[flag]
        for walk in _still_walks(web, there):
            around = joined_text(joined_text(way, walk), back_text(way))
            return _carried_rows(net, flags, flag, "mirror", around)
    return None


def _zero_rows(net, deed, cells):
    """The rows of the flags that have cell 0, or None if there is a source in which they stand for it."""
    flags = [flag for flag, cell in enumerate(cells) if cell == 0]
    try:
        rows = _web_rows(net, deed, cells, flags)
    except TooGreat:
        return _homely_rows(net, deed, flags)
    return rows


def barred_flags(deed, net):
    """For each flag the row that refuses it, or None if the net has a source."""
    rows = {}
    for cells in all_cells(net_steps(net), deed):
        told = _zero_rows(net, deed, cells)
        if told is None:
            return None
        for flag in told:
            rows[flag] = told[flag]
    for flag in range(len(net[0])):
        if flag not in rows:
            away = _away_rows(net, deed, flag)
            for each in away:
                rows[each] = away[each]
    return tuple([rows[flag] for flag in range(len(net[0]))])
