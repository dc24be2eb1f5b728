"""Words: changes one after another, and the reduced word of each."""

from netsredrawn.errors import TooGreat
from netsredrawn.syllables import (
    back_text, coded, is_mirror_row, is_reduced_text, joined_text, reduced_text, spelled_out)
from netsredrawn.values import need_word

MOST_SIGNS = 20000


def limited(word):
    """The word, if it is short enough to be told."""
    if len(word) > MOST_SIGNS:
        raise TooGreat(MOST_SIGNS)
    return word


def reduced(word):
    """The reduced word."""
    return limited(reduced_text(need_word(word)))


def back(word):
    """The reduced word of the characters from the right."""
    return limited(back_text(reduced_text(need_word(word))))


def then(word, other_word):
    """One word THEN the other one."""
    need_word(word)
    need_word(other_word)
    return limited(joined_text(reduced_text(word), reduced_text(other_word)))


def is_reduced(word):
    """Whether the string itself is reduced."""
    return is_reduced_text(need_word(word))


def is_ahead(word, other_word):
    """Whether the one reduced word is ahead of the other one in the one order."""
    need_word(word)
    need_word(other_word)
    first, second = reduced_text(word), reduced_text(other_word)
    return (len(first), first) < (len(second), second)


def is_mirror(word):
    """Whether the reduced word is a mirror."""
    return is_mirror_row(coded(need_word(word)))


def mirror_of(word):
    """The pair (Z, A) of a mirror back(Z) + A + Z; None for any other word."""
    codes = coded(need_word(word))
    if not is_mirror_row(codes):
        return None
    middle = len(codes) // 2
    return limited(spelled_out(codes[middle + 1:])), spelled_out([codes[middle]])


def times_home(word):
    """How often, from 1 on, the word is to be done until it is "": 0 if it never is."""
    codes = coded(need_word(word))
    if not codes:
        return 1
    if is_mirror_row(codes):
        return 2
    return 0
