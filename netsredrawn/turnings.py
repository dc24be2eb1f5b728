"""Turns ahead of a deed and behind it, and the renamings of a deed and itself."""

from netsredrawn.homes import need_whole
from netsredrawn.least import least_rows
from netsredrawn.moving import short_deed
from netsredrawn.renamings import all_renamings, found_renamings
from netsredrawn.sequence import after_rows
from netsredrawn.turns import TURNS

TURN_NAMES = ("same", "flip", "twist", "spin", "wheel", "unwheel")


def _turn_deeds():
    """The six turns as deeds."""
    return [tuple([((0, word),) for word in words]) for words in TURNS]


def _turned_first(deed):
    """The deeds of a turn and then the deed, for the six turns."""
    return [short_deed(after_rows(turn, deed)) for turn in _turn_deeds()]


def taken_up(deed):
    """For each of the six turns the least number of a turn as which the deed takes it up, or None."""
    need_whole(deed)
    ahead = _turned_first(deed)
    behind = [short_deed(after_rows(deed, turn)) for turn in _turn_deeds()]
    forms = [least_rows(each) for each in behind]
    told = []
    for each in ahead:
        form = least_rows(each)
        told.append(None)
        if form in forms:
            told[-1] = forms.index(form)
    return tuple(told)


def blind_to(deed):
    """The numbers of the turns to which the deed is blind, ascending."""
    need_whole(deed)
    forms = [least_rows(each) for each in _turned_first(deed)]
    return tuple([turn for turn in range(6) if forms[turn] == forms[0]])


def own_renamings(deed):
    """All renamings of the deed and itself, ascending by the image of cell 0."""
    return all_renamings(deed, deed)


def cell_lots(deed):
    """The bunches of cells to which own renamings lead one cell, each ascending, by their least cells."""
    need_whole(deed)
    found = found_renamings(deed, deed, len(deed[0]))
    lots = {}
    for cell in range(len(deed[0])):
        bunch = tuple(sorted([cells[cell] for cells, _ in found]))
        lots[bunch] = True
    return tuple(sorted(lots))
