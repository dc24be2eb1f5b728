"""Flags at which a walk meets, and told nets on which it does, or does not."""

from netsredrawn.closing import completed_net
from netsredrawn.deeds import need_deed
from netsredrawn.errors import BadNumber, TooGreat
from netsredrawn.folding import lot_table_of
from netsredrawn.listing import all_nets
from netsredrawn.meetings import crossed, how_it_meets, is_reached, need_place_pair, need_walk, tried_words
from netsredrawn.nets import need_net
from netsredrawn.steps import rounds_under, word_action
from netsredrawn.syllables import coded, is_mirror_text, joined_text
from netsredrawn.tables import grown_along, listed_rows
from netsredrawn.values import is_number, need_word
from netsredrawn.walks import need_cell

MOST_SIGNS = 100
LEAST_NET = ((1, 0, 3, 2), (1, 0, 3, 2), (2, 3, 0, 1))


def flags_crossed(net, closings, told):
    """The flags of a net at which a walk with these closings and this crossing meets, ascending."""
    if told is None:
        return ()
    places = {}
    for number, row in enumerate(rounds_under([word_action(net, word) for word in closings], len(net[0]))):
        for flag in row:
            places[flag] = number
    return tuple([flag for flag, there in enumerate(word_action(net, told)) if places[flag] == places[there]])


def _need_short(closings, told):
    """Looks whether a crossing is short enough for a net to be told."""
    if told is not None and len(told) + sum([len(word) for word in closings]) > MOST_SIGNS:
        raise TooGreat(MOST_SIGNS)


def met_net(closings, told):
    """A net and a flag at which a walk meets that sometimes or always does."""
    _need_short(closings, told)
    if is_reached(closings, told):
        return LEAST_NET, 0
    free = [word for word in tried_words(closings, told) if not is_mirror_text(word)]
    return completed_net(lot_table_of((free[0],))), 0


def unmet_net(closings, told):
    """A net and a flag at which a walk does not meet that sometimes or never does.

    In the lot of what the closings make together, but for mirrors, no word moves flag 0: so few
    flags are in its reach, and each of them is told, so that the crossing leads elsewhere.
    """
    if told is None:
        return LEAST_NET, 0
    _need_short(closings, told)
    both = ""
    for word in closings:
        both = joined_text(both, word)
    lot = ()
    if not is_mirror_text(both):
        lot = (both,)
    rows = listed_rows(lot_table_of(lot))
    for word in (told, both) + closings:
        grown_along(rows, 0, coded(word))
    return completed_net(rows), 0


def flags_met(deed, net, cell, walk, pair):
    """The flags of the net at which the walk meets, ascending."""
    need_deed(deed)
    need_net(net)
    need_cell(deed, cell)
    need_word(walk)
    need_place_pair(pair)
    closings, told = crossed(deed, cell, walk, pair)
    return flags_crossed(net, closings, told)


def net_where(deed, cell, walk, pair):
    """A net and a flag at which the walk meets, or None if it never does."""
    need_walk(deed, cell, walk, pair)
    closings, told = crossed(deed, cell, walk, pair)
    if how_it_meets(closings, told) == "never":
        return None
    return met_net(closings, told)


def net_without(deed, cell, walk, pair):
    """A net and a flag at which the walk does not meet, or None if it always does."""
    need_walk(deed, cell, walk, pair)
    closings, told = crossed(deed, cell, walk, pair)
    if how_it_meets(closings, told) == "always":
        return None
    return unmet_net(closings, told)


def first_net(deed, cell, walk, pair, many):
    """The first of all joined nets of up to so many flags on which the walk meets, and its least such flag."""
    need_walk(deed, cell, walk, pair)
    if not is_number(many) or many not in (4, 8, 12, 16):
        raise BadNumber(many)
    closings, told = crossed(deed, cell, walk, pair)
    if how_it_meets(closings, told) == "never":
        return None
    for flags in range(4, many + 1, 4):
        for net in all_nets(flags):
            met = flags_crossed(net, closings, told)
            if met:
                return net, met[0]
    return None
