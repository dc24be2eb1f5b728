"""Nets that close, open or part words."""

from netsredrawn.errors import TooGreat
from netsredrawn.folding import lot_table_of
from netsredrawn.lots import need_table
from netsredrawn.syllables import back_text, coded, joined_text, reduced_text
from netsredrawn.tables import grown_along, has_mirror, holds_word, listed_rows
from netsredrawn.values import need_word, need_word_list

MOST_SIGNS = 400
MOST_FLAGS = 960
MOST_WORD_SIGNS = 20000


def _need_short(words):
    """Looks whether reduced words have few enough characters in all."""
    if sum([len(reduced_text(word)) for word in words]) > MOST_SIGNS:
        raise TooGreat(MOST_SIGNS)


def completed_net(table):
    """The net to which a table of any length without mirrors is completed."""
    zero, one, two = listed_rows(table)
    loose = [number for number, there in enumerate(one) if there is None]
    for at in range(0, len(loose), 2):
        one[loose[at]] = loose[at + 1]
        one[loose[at + 1]] = loose[at]
    return tuple(zero), tuple(one), tuple(two)


def opened_net(table, word):
    """A net completed from a table in which a word that is not in the lot leads elsewhere."""
    rows = listed_rows(table)
    grown_along(rows, 0, coded(word))
    return completed_net(rows)


def completed(table):
    """The net to which the table is completed, or None if a mirror is in the lot."""
    need_table(table)
    if has_mirror(table):
        return None
    if len(table[0]) > MOST_FLAGS:
        raise TooGreat(MOST_FLAGS)
    return completed_net(table)


def closing_net(wordlist):
    """A pair (NET, FLAG) at which each word leads the flag to itself, or None."""
    need_word_list(wordlist, MOST_WORD_SIGNS)
    _need_short(wordlist)
    table = lot_table_of(wordlist)
    if has_mirror(table):
        return None
    return completed_net(table), 0


def opening_net(wordlist, word):
    """A pair (NET, FLAG) such that the net opens the word for the word list there, or None."""
    need_word_list(wordlist, MOST_WORD_SIGNS)
    need_word(word)
    _need_short(wordlist + (word,))
    table = lot_table_of(wordlist)
    if has_mirror(table) or holds_word(table, word):
        return None
    return opened_net(table, word), 0


def parting_net(word, other_word):
    """A pair (NET, FLAG) such that the net parts the words there, or None."""
    need_word(word)
    need_word(other_word)
    _need_short((word, other_word))
    between = joined_text(reduced_text(word), back_text(reduced_text(other_word)))
    if between == "":
        return None
    return opened_net(lot_table_of(()), between), 0
