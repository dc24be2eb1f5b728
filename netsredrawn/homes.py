"""Whole deeds, their homes, and the lots of their cells."""

from netsredrawn.cellwebs import home_walks, is_whole_rows, own_table
from netsredrawn.deeds import need_deed
from netsredrawn.errors import NotWhole, TooGreat
from netsredrawn.tables import MOST_NUMBERS
from netsredrawn.walks import need_cell


def is_whole_deed(deed):
    """Whether the deed is whole."""
    return is_whole_rows(need_deed(deed))


def whole_deed(deed):
    """A deed that was looked at, if it is whole."""
    if not is_whole_rows(deed):
        raise NotWhole()
    return deed


def need_whole(deed):
    """The deed, if it is whole."""
    return whole_deed(need_deed(deed))


def homes(deed):
    """Three reduced walks from cell 0 to cell 0 that gather "0", "1" and "2", or None."""
    need_deed(deed)
    if not is_whole_rows(deed):
        return None
    return home_walks(deed)


def own_lot(deed, cell):
    """The table of the lot of what all closed walks from the cell gather."""
    need_deed(deed)
    table = own_table(deed, need_cell(deed, cell))
    if len(table[0]) > MOST_NUMBERS:
        raise TooGreat(MOST_NUMBERS)
    return table
