"""Class words, and forms: sums of numbers of cycles that tell the same for all nets."""

from netsredrawn.classes import least_in_class
from netsredrawn.errors import BadNumber, BadTable, TooGreat
from netsredrawn.listing import all_nets
from netsredrawn.nets import need_net
from netsredrawn.rounds import need_pair
from netsredrawn.steps import net_cycles, word_action
from netsredrawn.syllables import back_text, coded, spelled_out, unwound
from netsredrawn.values import is_number, is_word, need_word

MOST_SIGNS = 9000
SHORT_WORDS = ("", "0", "1", "2", "02")


def class_text(word):
    """The class word of a word of any length; of one that is too long to be told only the length is right."""
    ring = spelled_out(unwound(coded(word))[1])
    if len(ring) > MOST_SIGNS:
        return ring
    return min(least_in_class(ring), least_in_class(back_text(ring)))


def short_class_word(word):
    """The class word of a word, if it is short enough to be told."""
    told = class_text(word)
    if len(told) > MOST_SIGNS:
        raise TooGreat(MOST_SIGNS)
    return told


def is_long_class_word(value):
    """Whether a value is a long class word that is not too long."""
    if not is_word(value) or len(value) > MOST_SIGNS:
        return False
    return value not in SHORT_WORDS and class_text(value) == value


def summed_form(items):
    """The form that is the sum of pairs of a class word and how many halves it has.

    Of "" each half is worth two edges, of a mirror one.
    """
    edges = 0
    halves = {}
    for word, many in items:
        if word == "":
            edges = edges + 2 * many
        elif word in SHORT_WORDS:
            edges = edges + many
        else:
            halves[word] = halves.get(word, 0) + many
    return edges, tuple([(word, halves[word]) for word in sorted(halves) if halves[word] != 0])


def cycle_count(net, word):
    """How many cycles a net has for a word."""
    return len(net_cycles(word_action(net, word)))


def form_total(form, net):
    """The total of a form on a net."""
    edges, parts = form
    return edges * (len(net[0]) // 2) + sum([halves * cycle_count(net, word) for word, halves in parts])


def scaled_sum(form, times, other_form, other_times):
    """The form whose total is the sum of so many times the two totals."""
    halves = {}
    for parts, many in ((form[1], times), (other_form[1], other_times)):
        for word, number in parts:
            halves[word] = halves.get(word, 0) + number * many
    kept = tuple([(word, halves[word]) for word in sorted(halves) if halves[word] != 0])
    return form[0] * times + other_form[0] * other_times, kept


def _is_item(item):
    """Whether a value is a pair of a long class word and an integer other than 0."""
    if not isinstance(item, tuple) or len(item) != 2:
        return False
    return is_number(item[1]) and item[1] != 0 and is_long_class_word(item[0])


def need_form(form):
    """The form."""
    if not isinstance(form, tuple) or len(form) != 2 or not is_number(form[0]) or not isinstance(form[1], tuple):
        raise BadTable("form", None)
    ahead = ""
    for place, item in enumerate(form[1]):
        if not _is_item(item) or item[0] <= ahead:
            raise BadTable("form", place)
        ahead = item[0]
    return form


def class_word(word):
    """The class word of the word."""
    return short_class_word(need_word(word))


def total(form, net):
    """The total of the form on the net."""
    need_form(form)
    return form_total(form, need_net(net))


def form_sum(form, other_form):
    """The form whose total is the sum of both totals."""
    need_form(form)
    need_form(other_form)
    return scaled_sum(form, 1, other_form, 1)


def form_times(form, number):
    """The form whose total is number times the total."""
    need_form(form)
    if not is_number(number):
        raise BadNumber(number)
    return scaled_sum(form, number, (0, ()), 0)


def word_total(word):
    """The form whose total is twice the number of cycles for the word."""
    return summed_form([(short_class_word(need_word(word)), 2)])


def pair_form(pair):
    """The form whose total is twice the number of rounds of two changes."""
    need_pair(pair)
    if pair == "02":
        return 1, ()
    return 0, ((pair, 1),)


def parting_total(form, other_form):
    """A joined net of 4 or 8 flags on which the two totals differ, or None."""
    need_form(form)
    need_form(other_form)
    for many in (4, 8):
        for net in all_nets(many):
            if form_total(form, net) != form_total(other_form, net):
                return net
    return None
