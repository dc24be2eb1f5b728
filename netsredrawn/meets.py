"""Meets of lots, lots moved by words, and the words that turn one lot into another."""

from netsredrawn.errors import TooGreat
from netsredrawn.lots import need_table
from netsredrawn.pairing import paired_rows
from netsredrawn.syllables import back_text, coded, joined_text
from netsredrawn.tables import (
    MOST_NUMBERS, cut_leaves, generator_words, grown_along, holds_word, listed_rows, ordered_table,
    square_at, table_ways)
from netsredrawn.values import need_word

MOST_TURNED = 200


def _limited_table(table):
    """The table, if it has no more numbers than may be told."""
    if len(table[0]) > MOST_NUMBERS:
        raise TooGreat(MOST_NUMBERS)
    return table


def meet(table, other_table):
    """The table of the meet of two lots."""
    need_table(table)
    need_table(other_table)
    rows = paired_rows(table, other_table)
    cut_leaves(rows, 0)
    return _limited_table(ordered_table(rows, 0))


def moved_lot(table, word):
    """The table of the lot moved by the word."""
    need_table(table)
    need_word(word)
    rows = listed_rows(table)
    root = grown_along(rows, 0, coded(word))
    cut_leaves(rows, root)
    return _limited_table(ordered_table(rows, root))


def outside(table, other_table):
    """The first of the generators of the one table that is not in the other lot, or None."""
    need_table(table)
    need_table(other_table)
    for word in generator_words(table):
        if not holds_word(other_table, word):
            return word
    return None


def _cored(table):
    """The pair (U, CORE): the table moved by U, from which no square can be cut off.

    U is the way to the first number left when the square of 0 may be cut off, too. None for
    the lot of "" alone, of which nothing is left.
    """
    rows = listed_rows(table)
    cut_leaves(rows, None)
    for number, way in enumerate(table_ways(table)):
        square = square_at(rows, number)
        told = [each for each in square if rows[1][each] is not None]
        if told or len(square) < 4:
            return way, ordered_table(rows, number)
    return None


def turning_word(table, other_table):
    """A word by which the one lot moved is the other one, or None."""
    need_table(table)
    need_table(other_table)
    if len(table[0]) > MOST_TURNED or len(other_table[0]) > MOST_TURNED:
        raise TooGreat(MOST_TURNED)
    if table == other_table:
        return ""
    first, second = _cored(table), _cored(other_table)
    if first is None or second is None:
        return None
    ways = table_ways(first[1])
    for number, way in enumerate(ways):
        if ordered_table(first[1], number) == second[1]:
            return joined_text(joined_text(first[0], way), back_text(second[0]))
    return None
