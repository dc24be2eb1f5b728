"""Tables of places, unchecked: their order, their squares, and where words lead in them.

A table here is a triple of rows (tuples or lists) over the numbers from 0 on, that of
change 1 with None where nothing is told. The codes of syllables are those of syllables.py.
"""

from netsredrawn.syllables import ONE, SIGNS, back_text, coded, joined_text
from netsredrawn.values import is_number_in

MOST_NUMBERS = 2500


def square_at(table, number):
    """The numbers of a square, each once, in the order in which they are met from one of them."""
    zero, _, two = table
    square = []
    for there in (number, zero[number], two[number], two[zero[number]]):
        if there not in square:
            square.append(there)
    return square


def met_order(table, root):
    """The numbers that are reached from the root, in the order of a table of a lot."""
    one = table[1]
    order = square_at(table, root)
    met = {number: True for number in order}
    at = 0
    while at < len(order):
        there = one[order[at]]
        at += 1
        if there is not None and there not in met:
            for number in square_at(table, there):
                met[number] = True
                order.append(number)
    return order


def ordered_table(table, root):
    """The table of what is reached from the root, numbered in its order."""
    order = met_order(table, root)
    place = {None: None}
    for number, old in enumerate(order):
        place[old] = number
    return tuple([tuple([place[row[here]] for here in order]) for row in table])


def cut_leaves(table, root):
    """Cut off what no reduced word of the lot of a table of lists needs.

    Cut off are squares of four numbers from which change 1 leads to one other square
    alone; never the square of the root. A root of None is in no square.
    """
    one = table[1]
    waiting = list(range(len(one)))
    while waiting:
        square = square_at(table, waiting.pop())
        if len(square) < 4 or root in square:
            continue
        told = [number for number in square if one[number] is not None]
        if len(told) == 1 and one[told[0]] != told[0]:
            there = one[told[0]]
            one[told[0]] = None
            one[there] = None
            waiting.append(there)


def listed_rows(table):
    """The table with lists in place of its tuples."""
    return [list(row) for row in table]


def led_by(table, number, code):
    """The number to which a syllable other than "1" leads."""
    if code in (1, 3):
        number = table[0][number]
    if code in (2, 3):
        number = table[2][number]
    return number


def traced(table, number, codes):
    """The number to which a row of codes leads, or None where it leads out of the table."""
    for code in codes:
        if code == ONE:
            number = table[1][number]
            if number is None:
                return None
        else:
            number = led_by(table, number, code)
    return number


def holds_word(table, word):
    """Whether a word is in the lot of a table."""
    return traced(table, 0, coded(word)) == 0


def grown_along(table, number, codes):
    """The number to which a row of codes leads in a table of lists, which grows where it must."""
    zero, one, two = table
    for code in codes:
        if code == ONE:
            if one[number] is None:
                new = len(zero)
                zero.extend([new + 1, new, new + 3, new + 2])
                two.extend([new + 2, new + 3, new, new + 1])
                one.extend([number, None, None, None])
                one[number] = new
            number = one[number]
        else:
            number = led_by(table, number, code)
    return number


def table_heads(table):
    """For each number of a table the number at which its square was met."""
    heads = [None] * len(table[0])
    for number in range(len(heads)):
        if heads[number] is None:
            for there in square_at(table, number):
                heads[there] = number
    return heads


def code_from_head(table, head, number):
    """The code of the first of "", "0", "2", "02" that leads from a head to a number."""
    for code in range(4):
        if led_by(table, head, code) == number:
            return code
    return None


def table_ways(table):
    """The ways to all numbers of a table."""
    ways = []
    for number, head in enumerate(table_heads(table)):
        if head != number:
            sign = SIGNS[code_from_head(table, head, number)]
            ways.append(joined_text(ways[head], sign))
        elif number == 0:
            ways.append("")
        else:
            ways.append(joined_text(ways[table[1][number]], "1"))
    return ways


def codes_kept(table, number):
    """The codes of those of "0", "2", "02" that lead a number to itself."""
    return [code for code in (1, 2, 3) if led_by(table, number, code) == number]


def generator_keys(table):
    """For each generator a pair: the number of a square and a code, or a number and ONE."""
    heads = table_heads(table)
    keys = []
    for number, head in enumerate(heads):
        if head == number:
            for code in codes_kept(table, number)[:2]:
                keys.append((number, code))
    for number, there in enumerate(table[1]):
        if there is not None and there >= number and (there == 0 or heads[there] != there):
            keys.append((number, ONE))
    return keys


def generator_words(table):
    """The generators of a table."""
    ways = table_ways(table)
    words = []
    for number, code in generator_keys(table):
        there = number
        if code == ONE:
            there = table[1][number]
        words.append(joined_text(joined_text(ways[number], SIGNS[code]), back_text(ways[there])))
    return words


def has_mirror(table):
    """Whether a mirror is in the lot of a table."""
    for number, there in enumerate(table[1]):
        if there == number or codes_kept(table, number):
            return True
    return False


def _has_table_form(value):
    """Whether a value keeps the rule "form" of tables."""
    if not isinstance(value, tuple) or len(value) != 3:
        return False
    if not isinstance(value[0], tuple) or not 1 <= len(value[0]) <= MOST_NUMBERS:
        return False
    most = len(value[0]) - 1
    for change, row in enumerate(value):
        if not isinstance(row, tuple) or len(row) != most + 1:
            return False
        for item in row:
            if not (is_number_in(item, 0, most) or (change == 1 and item is None)):
                return False
    return True


def _fails_back(table, number):
    """Whether some change does not lead back to a number."""
    for row in table:
        if row[number] is not None and row[row[number]] != number:
            return True
    return False


def _order_place(table):
    """The place at which the numbers are not in their order, or None."""
    order = met_order(table, 0)
    for place, number in enumerate(order):
        if place != number:
            return place
    if len(order) < len(table[0]):
        return len(order)
    return None


def _needless_place(table):
    """The least number of the first square without 0 that nothing needs, or None."""
    for number, head in enumerate(table_heads(table)):
        square = square_at(table, number)
        if number == head and number != 0 and len(square) == 4:
            if len([each for each in square if table[1][each] is not None]) < 2:
                return number
    return None


def table_fault(value):
    """None for a table of a lot, otherwise the pair of the rule that fails and the place."""
    if not _has_table_form(value):
        return "form", None
    for number in range(len(value[0])):
        if _fails_back(value, number):
            return "back", number
    for number in range(len(value[0])):
        if value[2][value[0][number]] != value[0][value[2][number]]:
            return "square", number
    place = _order_place(value)
    if place is not None:
        return "order", place
    place = _needless_place(value)
    if place is not None:
        return "needed", place
    return None
