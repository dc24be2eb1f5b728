"""Nets on which what is no deed makes no net."""

from netsredrawn.closing import opened_net
from netsredrawn.deeds import both_steps, rule_broken
from netsredrawn.errors import BadDeed
from netsredrawn.folding import lot_table_of
from netsredrawn.syllables import back_text, joined_text


def _parting_word(table, cell):
    """A word such that, where it leads a flag elsewhere, the rule "square" breaks at this cell of it.

    It is "" where the rule breaks at each flag.
    """
    there, word = both_steps(table, cell, 0, 2)
    other, other_word = both_steps(table, cell, 2, 0)
    if there != other:
        return ""
    return joined_text(word, back_text(other_word))


def breaking_net(table):
    """A pair (NET, FLAG) at which what is done breaks; None of a deed."""
    fault = rule_broken(table)
    if fault is None:
        return None
    rule, cell = fault
    if rule in ("form", "back"):
        raise BadDeed(rule, cell)
    word = ""
    if rule == "square":
        word = _parting_word(table, cell)
    # Flag 0 of the net is where the word begins, so that what is made breaks at this cell of it.
    return opened_net(lot_table_of(()), word), cell
