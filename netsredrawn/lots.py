"""Lots of words, told by their tables."""

from netsredrawn.errors import BadTable
from netsredrawn.syllables import ONE, coded
from netsredrawn.tables import (
    code_from_head, codes_kept, generator_keys, generator_words, holds_word, table_fault,
    table_heads, table_ways, traced)
from netsredrawn.values import need_number_in, need_word


def need_table(table):
    """Looks whether the value is a table."""
    fault = table_fault(table)
    if fault is not None:
        raise BadTable(fault[0], fault[1])


def holds(table, word):
    """Whether the word is in the lot."""
    need_table(table)
    return holds_word(table, need_word(word))


def place_of(table, word):
    """The number of the place of the word, or None."""
    need_table(table)
    return traced(table, 0, coded(need_word(word)))


def way_to(table, number):
    """The way to the number."""
    need_table(table)
    need_number_in(number, 0, len(table[0]) - 1)
    return table_ways(table)[number]


def index_of(table):
    """How many places all words have, or None if there is no such number."""
    need_table(table)
    if None in table[1]:
        return None
    return len(table[1])


def generators(table):
    """The generators of the table."""
    need_table(table)
    return tuple(generator_words(table))


def _is_mirror_key(table, key):
    """Whether the generator of a key is a mirror."""
    number, code = key
    return code != ONE or table[1][number] == number


def kinds(table):
    """The kinds of the table."""
    need_table(table)
    free = len([key for key in generator_keys(table) if not _is_mirror_key(table, key)])
    ones = len([number for number, there in enumerate(table[1]) if there == number])
    counts = {}
    for number, head in enumerate(table_heads(table)):
        if number == head:
            kept = tuple(codes_kept(table, number))
            counts[kept] = counts.get(kept, 0) + 1
    told = [counts.get(kept, 0) for kept in ((1,), (2,), (3,), (1, 2, 3))]
    return (free, ones) + tuple(told)


def _square_items(head, code, places):
    """The items of a row of generators for what a word does in one square."""
    if code == 0:
        return []
    if (head, code) in places:
        return [(places[(head, code)], False)]
    return [(places[(head, 1)], False), (places[(head, 2)], False)]


def parsed(table, word):
    """The row of generators and backs that makes the word, or None if the lot lacks it."""
    need_table(table)
    places = {key: place for place, key in enumerate(generator_keys(table))}
    heads = table_heads(table)
    number = 0
    row = []
    for code in coded(need_word(word)):
        there = traced(table, number, (code,))
        if there is None:
            return None
        if code != ONE:
            head = heads[number]
            first = code_from_head(table, head, number)
            last = code_from_head(table, head, there)
            row.extend(_square_items(head, first ^ code ^ last, places))
        elif (min(number, there), ONE) in places:
            row.append((places[(min(number, there), ONE)], number > there))
        number = there
    if number != 0:
        return None
    return tuple(row)


def mirror_in(table):
    """The first of the generators that is a mirror, or None."""
    need_table(table)
    for place, key in enumerate(generator_keys(table)):
        if _is_mirror_key(table, key):
            return generator_words(table)[place]
    return None
