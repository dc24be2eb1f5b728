"""Deeds one after another."""

from netsredrawn.deeds import MOST_CELLS, need_deed, rule_broken
from netsredrawn.errors import BadScript, TooGreat
from netsredrawn.moving import short_deed
from netsredrawn.syllables import spelled_out
from netsredrawn.values import need_number_in
from netsredrawn.walks import walked_codes

SAME = (((0, "0"),), ((0, "1"),), ((0, "2"),))
MOST_DEEDS = 20
MOST_TIMES = 60


def after_rows(deed, other_deed):
    """AFTER of two deeds, with any number of cells and words of any length."""
    many = len(other_deed[0])
    rows = []
    for row in other_deed:
        steps = []
        for cell in range(len(deed[0])):
            for there, word in row:
                end, codes = walked_codes(deed, cell, word)
                steps.append((end * many + there, spelled_out(codes)))
        rows.append(tuple(steps))
    return tuple(rows)


def limited_after(deed, other_deed):
    """AFTER of two deeds that were looked at, if it is a deed."""
    if len(deed[0]) * len(other_deed[0]) > MOST_CELLS:
        raise TooGreat(MOST_CELLS)
    return short_deed(after_rows(deed, other_deed))


def after(deed, other_deed):
    """The deed that does the first one and then the second one."""
    need_deed(deed)
    need_deed(other_deed)
    return limited_after(deed, other_deed)


def script_of(deedlist):
    """The deed that does these, in their order."""
    if not isinstance(deedlist, tuple) or len(deedlist) > MOST_DEEDS:
        raise BadScript(None)
    for place, deed in enumerate(deedlist):
        if rule_broken(deed) is not None:
            raise BadScript(place)
    told = SAME
    for deed in deedlist:
        told = limited_after(told, deed)
    return told


def many_times(deed, times):
    """The deed that does the deed so many times."""
    need_deed(deed)
    need_number_in(times, 0, MOST_TIMES)
    told = SAME
    for _ in range(times):
        told = limited_after(told, deed)
    return told
