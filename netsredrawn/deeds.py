"""Deeds: their rules."""

from netsredrawn.errors import BadDeed, NotPlain
from netsredrawn.syllables import back_text, is_reduced_text, joined_text
from netsredrawn.values import is_number_in, is_word

MOST_CELLS = 48
MOST_SIGNS = 60


def _is_step(value, most):
    """Whether a value is a pair of a cell up to most and a reduced word that is not too long."""
    if not isinstance(value, tuple) or len(value) != 2:
        return False
    cell, word = value
    return is_number_in(cell, 0, most) and is_word(word) and len(word) <= MOST_SIGNS and is_reduced_text(word)


def _has_deed_form(value):
    """Whether a value keeps the rule "form" of deeds."""
    if not isinstance(value, tuple) or len(value) != 3:
        return False
    if not isinstance(value[0], tuple) or not 1 <= len(value[0]) <= MOST_CELLS:
        return False
    many = len(value[0])
    for row in value:
        if not isinstance(row, tuple) or len(row) != many:
            return False
        for step in row:
            if not _is_step(step, many - 1):
                return False
    return True


def both_steps(deed, cell, change, other_change):
    """The pair of the cell and the gathered word of one step and then another one."""
    middle, word = deed[change][cell]
    there, other_word = deed[other_change][middle]
    return there, joined_text(word, other_word)


def _fails(deed, rule, cell):
    """Whether a rule behind "form" fails at a cell."""
    if rule == "back":
        return [row for row in deed if row[row[cell][0]] != (cell, back_text(row[cell][1]))] != []
    if rule == "still":
        return [row for row in deed if row[cell] == (cell, "")] != []
    if rule == "square":
        return both_steps(deed, cell, 0, 2) != both_steps(deed, cell, 2, 0)
    return both_steps(deed, cell, 0, 2) == (cell, "")


def rule_behind_form(deed):
    """The pair of a rule behind "form" that fails and the least cell, or None; words may have any length."""
    for rule in ("back", "still", "square", "apart"):
        for cell in range(len(deed[0])):
            if _fails(deed, rule, cell):
                return rule, cell
    return None


def rule_broken(deed):
    """None for a deed, otherwise the pair of the rule that fails and the least cell."""
    if not _has_deed_form(deed):
        return "form", None
    return rule_behind_form(deed)


def need_deed(deed):
    """The deed."""
    fault = rule_broken(deed)
    if fault is not None:
        raise BadDeed(fault[0], fault[1])
    return deed


def _long_cell(deed):
    """The least cell with a word of more than one character, or None."""
    for cell in range(len(deed[0])):
        for row in deed:
            if len(row[cell][1]) > 1:
                return cell
    return None


def is_plain(deed):
    """Whether the deed is plain."""
    return _long_cell(need_deed(deed)) is None


def need_plain(deed):
    """The deed, if it is plain."""
    cell = _long_cell(need_deed(deed))
    if cell is not None:
        raise NotPlain(cell)
    return deed
