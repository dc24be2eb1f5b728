"""All small joined nets, and how many rooted ones there are."""

from math import comb

from netsredrawn.errors import BadNumber
from netsredrawn.likening import least_part_form
from netsredrawn.tables import ordered_table
from netsredrawn.values import is_number, need_number_in


def _grow_rows(one, met, found):
    """Put all ways to go on with a row of change 1 into found, squares being met in turn.

    Change 1 leads each flag, in its turn, to a flag of a square that was met and to which it
    does not lead yet, or to the first flag of the next square.
    """
    loose = [flag for flag in range(met) if one[flag] is None]
    if not loose:
        if met == len(one):
            found.append(tuple(one))
        return
    flag = loose[0]
    for there in loose[1:]:
        one[flag], one[there] = there, flag
        _grow_rows(one, met, found)
        one[there] = None
    if met < len(one):
        one[flag], one[met] = met, flag
        _grow_rows(one, met + 4, found)
        one[met] = None
    one[flag] = None


def all_nets(many):
    """The least forms of all joined nets of so many flags, ascending."""
    if not is_number(many) or many not in (4, 8, 12, 16):
        raise BadNumber(many)
    found = []
    _grow_rows([None] * many, 4, found)
    zero = tuple([flag ^ 1 for flag in range(many)])
    two = tuple([flag ^ 2 for flag in range(many)])
    met = {}
    forms = []
    for one in found:
        if one not in met:
            net = (zero, one, two)
            forms.append(least_part_form(net, list(range(many))))
            for flag in range(many):
                met[ordered_table(net, flag)[1]] = True
    return tuple(sorted(forms))


def _odd_products(number):
    """The row A(0), A(1) .. A(number)."""
    row = [1]
    for edges in range(1, number + 1):
        row.append(row[-1] * (4 * edges - 3) * (4 * edges - 1))
    return row


def rooted_number(number):
    """The rooted number of so many edges."""
    need_number_in(number, 1, 200)
    every = _odd_products(number)
    joined = [0]
    for edges in range(1, number + 1):
        rest = [comb(edges - 1, less - 1) * joined[less] * every[edges - less] for less in range(1, edges)]
        joined.append(every[edges] - sum(rest))
    names = 1
    for edges in range(1, number):
        names = names * edges * 4
    return joined[number] // names
