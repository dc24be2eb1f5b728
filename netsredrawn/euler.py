"""Euler's number, and the numbers of corners, edges and faces, for all nets."""

from netsredrawn.counting import rounds_form
from netsredrawn.deeds import need_deed
from netsredrawn.errors import BadTable
from netsredrawn.forms import scaled_sum
from netsredrawn.matrices import led_often
from netsredrawn.values import is_number, need_number_in

MOST_TIMES = 10 ** 30


def _is_triple(value):
    """Whether a value is a triple of integers."""
    if not isinstance(value, tuple) or len(value) != 3:
        return False
    return is_number(value[0]) and is_number(value[1]) and is_number(value[2])


def _need_table(table):
    """Looks whether the value is a table of numbers."""
    if not isinstance(table, tuple) or len(table) != 3:
        raise BadTable("numbers", None)
    for row in table:
        if not _is_triple(row):
            raise BadTable("numbers", None)


def need_times(times, modulus):
    """Looks whether the values are a number of times and a modulus."""
    need_number_in(times, 0, MOST_TIMES)
    need_number_in(modulus, 1, MOST_TIMES)


def euler_form(deed):
    """The form whose total on every net is twice Euler's number of what is done."""
    need_deed(deed)
    both = scaled_sum(rounds_form(deed, "12"), 1, rounds_form(deed, "01"), 1)
    return scaled_sum(both, 1, (len(deed[0]), ()), -1)


def keeps_euler(deed):
    """Whether Euler's number stays on every net."""
    return euler_form(deed) == (-1, (("01", 1), ("12", 1)))


def number_table(deed):
    """The table of numbers of the deed; None if it doesn't count by numbers."""
    need_deed(deed)
    rows = []
    for form in (rounds_form(deed, "12"), (len(deed[0]), ()), rounds_form(deed, "01")):
        halves = {word: many for word, many in form[1]}
        if [word for word in halves if word not in ("01", "12")]:
            return None
        rows.append((halves.get("12", 0), form[0], halves.get("01", 0)))
    return tuple(rows)


def numbers_then(table, other_table):
    """The table of doing first the one and then the other."""
    _need_table(table)
    _need_table(other_table)
    rows = []
    for row in other_table:
        rows.append(tuple([sum([row[at] * table[at][column] for at in range(3)]) for column in range(3)]))
    return tuple(rows)


def numbers_after(table, counts, times, modulus):
    """The numbers of corners, edges and faces after the table was done so many times, modulo modulus."""
    _need_table(table)
    if not _is_triple(counts):
        raise BadTable("counts", None)
    need_times(times, modulus)
    return tuple(led_often(table, counts, times, modulus))
