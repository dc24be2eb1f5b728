"""Rounds, degrees and cycles of nets."""

from math import lcm

from netsredrawn.errors import BadPair
from netsredrawn.nets import need_flag, need_net
from netsredrawn.steps import cycle_from, net_cycles, rounds_under, word_action
from netsredrawn.values import need_number_in, need_word, need_words

PAIRS = ("12", "02", "01")


def need_pair(pair):
    """The string of two changes whose rounds are corners, edges or faces."""
    if not isinstance(pair, str) or pair not in PAIRS:
        raise BadPair(pair)
    return pair


def pair_rounds(net, pair):
    """The corners, edges or faces of a net that was looked at."""
    return rounds_under([net[int(sign)] for sign in pair], len(net[0]))


def rounds(net, wordlist):
    """The rounds of a net for some words."""
    need_net(net)
    need_words(wordlist)
    return rounds_under([word_action(net, word) for word in wordlist], len(net[0]))


def round_of(net, flag, wordlist):
    """The round of a flag for some words."""
    need_net(net)
    need_flag(net, flag)
    need_words(wordlist)
    for row in rounds(net, wordlist):
        if flag in row:
            return row
    return None


def degrees(net, pair):
    """The degrees of all corners, edges or faces, the lesser ones first."""
    need_net(net)
    need_pair(pair)
    return tuple(sorted([len(row) // 2 for row in pair_rounds(net, pair)]))


def euler_number(net):
    """The number of corners, less that of edges, plus that of faces."""
    need_net(net)
    corners, edges, faces = [len(pair_rounds(net, pair)) for pair in PAIRS]
    return corners - edges + faces


def cycle(net, flag, word):
    """The cycle of a flag for a word."""
    need_net(net)
    need_flag(net, flag)
    need_word(word)
    return tuple(cycle_from(word_action(net, word), flag))


def cycle_length(net, flag, word):
    """How many flags the cycle of a flag for a word has."""
    return len(cycle(net, flag, word))


def cycle_number(net, word):
    """How many cycles a word has."""
    need_net(net)
    return len(net_cycles(word_action(net, need_word(word))))


def lead_often(net, flag, word, number):
    """The flag to which a word leads, done so many times."""
    flags = cycle(net, flag, word)
    need_number_in(number, 0, 10 ** 30)
    return flags[number % len(flags)]


def word_order(net, word):
    """The least number of times, from 1 on, that leads each flag to itself."""
    need_net(net)
    order = 1
    for each in net_cycles(word_action(net, need_word(word))):
        order = lcm(order, len(each))
    return order
