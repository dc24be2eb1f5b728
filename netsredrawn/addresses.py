"""Flags of nets of any size, told by a flag and a cell for each deed, unchecked."""

from netsredrawn.classes import least_of_ring
from netsredrawn.counting import gathered_cycles
from netsredrawn.errors import TooGreat
from netsredrawn.forms import cycle_count
from netsredrawn.steps import cycle_from, word_action, word_step
from netsredrawn.syllables import coded, put_codes, spelled_out, unwound
from netsredrawn.values import is_number_in
from netsredrawn.walks import walked_codes

MOST_SIGNS = 1000
MOST_WORDS = 200


def is_address(net, record, value):
    """Whether a value is an address of what some deeds make of a net."""
    if not isinstance(value, tuple) or len(value) != len(record) + 1:
        return False
    for place, each in enumerate(value):
        most = len(net[0])
        if place > 0:
            most = len(record[place - 1][0])
        if not is_number_in(each, 0, most - 1):
            return False
    return True


def need_short(word):
    """The reduced word, if it is short enough to be led on."""
    if len(word) > MOST_SIGNS:
        raise TooGreat(MOST_SIGNS)
    return word


def led_address(net, record, address, word):
    """The address to which a reduced word leads."""
    need_short(word)
    cells = ()
    for place in range(len(record), 0, -1):
        cell, codes = walked_codes(record[place - 1], address[place], word)
        word = need_short(spelled_out(codes))
        cells = (cell,) + cells
    return (word_step(net, address[0], word),) + cells


def _walked_home(deed, cell, word):
    """The pair of how often a walk is led until it is back at a cell, and all that it gathers."""
    here, codes = walked_codes(deed, cell, word)
    times = 1
    while here != cell:
        here, more = walked_codes(deed, here, word)
        put_codes(codes, more)
        times = times + 1
    return times, spelled_out(codes)


def address_cycle(net, record, address, word):
    """How long the cycle of an address for a reduced word is."""
    need_short(word)
    many = 1
    for place in range(len(record), 0, -1):
        times, word = _walked_home(record[place - 1], address[place], word)
        need_short(word)
        many = many * times
    return many * len(cycle_from(word_action(net, word), address[0]))


def _short_least(word):
    """The least conjugate of a word, if it is short enough for a tally."""
    ring = unwound(coded(word))[1]
    if len(ring) < 2:
        return spelled_out(ring)
    # Each shortest word of the class has as many characters as the ring.
    need_short(spelled_out(ring))
    return least_of_ring(ring)[0]


def tally_cycles(net, record, word):
    """How many cycles a word has in what some deeds make of a net."""
    tally = {_short_least(word): 1}
    for deed in reversed(record):
        further = {}
        for each in tally:
            for gathered in gathered_cycles(deed, each):
                least = _short_least(gathered)
                further[least] = further.get(least, 0) + tally[each]
        if len(further) > MOST_WORDS:
            raise TooGreat(MOST_WORDS)
        tally = further
    return sum([cycle_count(net, each) * tally[each] for each in tally])
