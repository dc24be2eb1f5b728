"""How many rounds of which degrees a deed makes, on a net and for all nets."""

from netsredrawn.deeds import need_deed
from netsredrawn.errors import TooGreat
from netsredrawn.forms import MOST_SIGNS, class_text, cycle_count, need_form, short_class_word, summed_form
from netsredrawn.nets import need_net
from netsredrawn.rounds import need_pair
from netsredrawn.steps import net_cycles, word_action
from netsredrawn.strips import found_strips, strip_closing, strip_length
from netsredrawn.syllables import put_codes, spelled_out
from netsredrawn.walks import walked_codes


def rounds_form(deed, pair):
    """The form whose total is twice the number of rounds that a deed makes."""
    items = []
    for strip in found_strips(deed, pair):
        halves = 2
        if strip[0] == "row":
            halves = 1
        items.append((short_class_word(strip_closing(strip)), halves))
    return summed_form(items)


def gathered_cycles(deed, word):
    """The words that a walk gathers from one cell of each of its cycles until it is back there."""
    met = {}
    words = []
    for cell in range(len(deed[0])):
        if cell in met:
            continue
        met[cell] = True
        here, codes = walked_codes(deed, cell, word)
        while here != cell:
            met[here] = True
            here, more = walked_codes(deed, here, word)
            put_codes(codes, more)
        words.append(spelled_out(codes))
    return words


def pulled_word(deed, word):
    """The class words, or words as long as these, to which a class word is pulled: one for each cycle of cells."""
    return [class_text(each) for each in gathered_cycles(deed, word)]


def _short(words):
    """The words, if none of them is too long."""
    for word in words:
        if len(word) > MOST_SIGNS:
            raise TooGreat(MOST_SIGNS)
    return words


def pulled_form(deed, form):
    """A form pulled through a deed."""
    edges, parts = form
    items = [("0", edges * len(deed[0]))]
    for word, halves in parts:
        for each in _short(pulled_word(deed, word)):
            items.append((each, halves))
    return summed_form(items)


def count_form(deed, pair):
    """The form whose total on every net is twice the number of rounds of two changes in what is done."""
    need_deed(deed)
    return rounds_form(deed, need_pair(pair))


def pulled(deed, form):
    """The form pulled through the deed."""
    need_deed(deed)
    return pulled_form(deed, need_form(form))


def rounds_made(deed, net, pair):
    """The number of rounds of two changes in what is done on the net."""
    need_deed(deed)
    need_net(net)
    need_pair(pair)
    twice = 0
    for strip in found_strips(deed, pair):
        many = cycle_count(net, strip_closing(strip))
        if strip[0] == "ring":
            many = 2 * many
        twice = twice + many
    return twice // 2


def degree_counts(deed, net, pair):
    """The pairs (DEGREE, HOW MANY) of all degrees of these rounds, ascending."""
    need_deed(deed)
    need_net(net)
    need_pair(pair)
    twice = {}
    for strip in found_strips(deed, pair):
        each = 1
        if strip[0] == "ring":
            each = 2
        for cycle in net_cycles(word_action(net, strip_closing(strip))):
            degree = strip_length(strip) * len(cycle)
            twice[degree] = twice.get(degree, 0) + each
    return tuple([(degree, twice[degree] // 2) for degree in sorted(twice)])
