"""Whether the ends of a walk lie in one corner, edge or face, told for all nets at once."""

from netsredrawn.deeds import need_deed
from netsredrawn.errors import BadPair
from netsredrawn.folding import lot_table_of
from netsredrawn.syllables import back_text, is_mirror_text, joined_text, spelled_out
from netsredrawn.tables import holds_word
from netsredrawn.values import need_word
from netsredrawn.walks import need_cell, walked_codes
from netsredrawn.words import limited

PLACE_PAIRS = ("", "12", "02", "01")


def is_place_pair(value):
    """Whether a value is one of the four pairs."""
    return isinstance(value, str) and value in PLACE_PAIRS


def need_place_pair(pair):
    """The pair."""
    if not is_place_pair(pair):
        raise BadPair(pair)
    return pair


def _way(deed, cell, change, other):
    """The way from a cell by steps of two changes in turn: (LINKS, CLOSING, whether it is a ring)."""
    met = {cell: ""}
    first = change
    there, word = deed[change][cell]
    here = cell
    gathered = ""
    while there != here:
        here = there
        gathered = joined_text(gathered, word)
        change, other = other, change
        if here == cell and change == first:
            return met, gathered, True
        met[here] = gathered
        there, word = deed[change][here]
    return met, joined_text(joined_text(gathered, word), back_text(gathered)), False


def circuit(deed, cell, pair):
    """The pair of a dict of the links of the cells of a circuit, and its closings."""
    if pair == "":
        return {cell: ""}, ()
    change, other = int(pair[0]), int(pair[1])
    met, closing, is_ring = _way(deed, cell, change, other)
    if is_ring:
        return met, (closing,)
    more, other_closing, _ = _way(deed, cell, other, change)
    for each in more:
        if each not in met:
            met[each] = more[each]
    return met, (closing, other_closing)


def crossed(deed, cell, walk, pair):
    """The pair of the closings and the crossing of a walk, or None in its place."""
    met, closings = circuit(deed, cell, pair)
    there, codes = walked_codes(deed, cell, walk)
    if there not in met:
        return closings, None
    return closings, joined_text(spelled_out(codes), back_text(met[there]))


def tried_words(closings, told):
    """The tried words of a crossing."""
    tried = [told]
    for closing in closings:
        tried = tried + [joined_text(word, closing) for word in tried]
    return tried


def is_reached(closings, told):
    """Whether a crossing is in the reach."""
    if told == "" or not closings:
        return told == ""
    return holds_word(lot_table_of(closings), told)


def how_it_meets(closings, told):
    """Whether a walk with these closings and this crossing meets always, never or sometimes."""
    if told is None:
        return "never"
    if is_reached(closings, told):
        return "always"
    if [word for word in tried_words(closings, told) if not is_mirror_text(word)]:
        return "sometimes"
    return "never"


def need_walk(deed, cell, walk, pair):
    """Looks at a deed, a cell of it, a walk and a pair."""
    need_deed(deed)
    need_cell(deed, cell)
    need_word(walk)
    need_place_pair(pair)


def closings_of(deed, cell, pair):
    """The closings of the cell for the pair."""
    need_walk(deed, cell, "", pair)
    return circuit(deed, cell, pair)[1]


def links(deed, cell, pair):
    """The cells of the circuit of the cell with their links, ascending."""
    need_walk(deed, cell, "", pair)
    told = circuit(deed, cell, pair)[0]
    return tuple([(each, told[each]) for each in sorted(told)])


def crossing(deed, cell, walk, pair):
    """The crossing of the walk, or None."""
    need_walk(deed, cell, walk, pair)
    told = crossed(deed, cell, walk, pair)[1]
    if told is None:
        return None
    return limited(told)


def meeting(deed, cell, walk, pair):
    """Whether the walk meets always, never or sometimes."""
    need_walk(deed, cell, walk, pair)
    closings, told = crossed(deed, cell, walk, pair)
    return how_it_meets(closings, told)
