"""Which degrees come, and nets on which they do."""

from math import gcd

from netsredrawn.classes import class_pair
from netsredrawn.closing import completed_net
from netsredrawn.deeds import need_deed
from netsredrawn.errors import TooGreat
from netsredrawn.folding import lot_table_of
from netsredrawn.forms import SHORT_WORDS
from netsredrawn.rounds import need_pair
from netsredrawn.steps import word_step
from netsredrawn.strips import found_strips, strip_closing, strip_length
from netsredrawn.syllables import coded
from netsredrawn.values import need_number_in, need_word

MOST_FLAGS = 960
MOST_DEGREE = 10 ** 30


def _least_net():
    """A net of 4 flags."""
    return completed_net(lot_table_of(()))


def _flags_needed(least, many):
    """How many flags the net has on which a least conjugate has a cycle of so many flags."""
    return 4 * least.count("1") * many


def found_cycle(word, many):
    """A pair (NET, FLAG): the cycle of the flag for a word has so many flags. None if there is none."""
    least, mover = class_pair(coded(word))
    if least in SHORT_WORDS:
        if many == min(len(least), 1) + 1:
            return _least_net(), 0
        return None
    if _flags_needed(least, many) > MOST_FLAGS:
        raise TooGreat(MOST_FLAGS)
    # The flags to which the least conjugate leads flag 0, until it comes again, are places of unlike words.
    net = completed_net(lot_table_of([least * many]))
    return net, word_step(net, 0, mover)


def cycle_net(word, many):
    """A pair (NET, FLAG): the cycle of the flag for the word has exactly so many flags. None if there is none."""
    need_word(word)
    need_number_in(many, 1, MOST_FLAGS)
    return found_cycle(word, many)


def _strip_degrees(deed, pair):
    """For each strip a triple: its degree or the number of which its degrees are multiples; least word; strip."""
    told = []
    for strip in found_strips(deed, pair):
        least = class_pair(coded(strip_closing(strip)))[0]
        degree = strip_length(strip)
        if least in SHORT_WORDS and least != "":
            degree = 2 * degree
        told.append((degree, least, strip))
    return told


def _fixed_and_steps(rows):
    """The pair (FIXED, STEPS) of what _strip_degrees tells."""
    fixed = {degree: True for degree, least, _ in rows if least in SHORT_WORDS}
    steps = {degree: True for degree, least, _ in rows if least not in SHORT_WORDS}
    return tuple(sorted(fixed)), tuple(sorted(steps))


def degrees_told(deed, pair):
    """The pair (FIXED, STEPS): the degrees that come always, and those whose multiples come on some net."""
    need_deed(deed)
    return _fixed_and_steps(_strip_degrees(deed, need_pair(pair)))


def degree_comes(deed, pair, degree):
    """Whether the degree comes "always", "sometimes" or "never"."""
    fixed, steps = degrees_told(deed, pair)
    need_number_in(degree, 1, MOST_DEGREE)
    if degree in fixed:
        return "always"
    if [step for step in steps if degree % step == 0]:
        return "sometimes"
    return "never"


def common_divisor(deed, pair):
    """The greatest integer that divides all degrees that come."""
    fixed, steps = degrees_told(deed, pair)
    told = 0
    for degree in fixed + steps:
        told = gcd(told, degree)
    return told


def degree_net(deed, pair, degree):
    """A pair (NET, FLAG): the round of the flag of what is done on the net has the degree. None if it never comes."""
    comes = degree_comes(deed, pair, degree)
    if comes == "never":
        return None
    many = len(deed[0])
    for step, least, strip in _strip_degrees(deed, pair):
        first = strip[1][0]
        if comes == "always":
            if least in SHORT_WORDS and step == degree:
                return _least_net(), first
        elif least not in SHORT_WORDS and degree % step == 0:
            if _flags_needed(least, degree // step) <= MOST_FLAGS:
                net, flag = found_cycle(strip_closing(strip), degree // step)
                return net, flag * many + first
    raise TooGreat(MOST_FLAGS)
