"""Refusals: why two deeds are not alike."""

from netsredrawn.cellwebs import home_walks
from netsredrawn.errors import BadPaper
from netsredrawn.renamings import found_renamings, need_whole_ones
from netsredrawn.syllables import ONE, back_text, is_mirror_row, joined_text, spelled_out
from netsredrawn.values import is_number_in, is_word
from netsredrawn.walks import closed_walks, walked_codes

SIGNS = ("0", "1", "2")


def _need_like_many(deed, other_deed):
    """Looks whether the two are whole deeds with as many cells."""
    need_whole_ones(deed, other_deed)
    if len(deed[0]) != len(other_deed[0]):
        raise BadPaper("cells")


def _movers(codes):
    """The two words U such that back(U) + "1" + U makes a reduced row of codes, or no words."""
    middle = len(codes) // 2
    if not is_mirror_row(codes) or codes[middle] != ONE:
        return ()
    tail = spelled_out(codes[middle + 1:])
    return tail, "1" + tail


def _walked_word(deed, cell, walk):
    """The pair of the cell to which a walk leads and the word that it gathers, of any length."""
    there, codes = walked_codes(deed, cell, walk)
    return there, spelled_out(codes)


def _is_unlike(deed, other_deed, cell, mover, walk):
    """Whether a walk, closed at cell 0 of the one deed, is not led likewise from a cell of the other one."""
    there, word = _walked_word(deed, 0, walk)
    led = joined_text(joined_text(back_text(mover), word), mover)
    return there == 0 and _walked_word(other_deed, cell, walk) != (cell, led)


def _away(other_deed, told_homes, cell):
    """The number of the first home that does not come back to a cell of the other deed, or None."""
    for number, walk in enumerate(told_homes):
        if walked_codes(other_deed, cell, walk)[0] != cell:
            return number
    return None


def _refusing_row(deed, other_deed, told_homes, cell):
    """The row for a cell of the other deed."""
    number = _away(other_deed, told_homes, cell)
    if number is not None:
        return "away", number
    movers = _movers(walked_codes(other_deed, cell, told_homes[1])[1])
    if not movers:
        return ("class",)
    row = ["walks"]
    for mover in movers:
        unlike = [walk for walk in closed_walks(deed, 0) if _is_unlike(deed, other_deed, cell, mover, walk)]
        row.append((mover, unlike[0]))
    return tuple(row)


def refusals(deed, other_deed):
    """A refusal of the two whole deeds, or None if they are alike."""
    _need_like_many(deed, other_deed)
    if found_renamings(deed, other_deed, 1):
        return None
    told_homes = home_walks(deed)
    rows = [_refusing_row(deed, other_deed, told_homes, cell) for cell in range(len(other_deed[0]))]
    return told_homes, tuple(rows)


def _is_word_pair(value):
    """Whether a value is a pair of words."""
    return isinstance(value, tuple) and len(value) == 2 and is_word(value[0]) and is_word(value[1])


def _is_row(row):
    """Whether a value has one of the three forms of rows."""
    if not isinstance(row, tuple) or not row or not isinstance(row[0], str):
        return False
    if row[0] == "away":
        return len(row) == 2 and is_number_in(row[1], 0, 2)
    if row[0] == "class":
        return len(row) == 1
    return row[0] == "walks" and len(row) == 3 and _is_word_pair(row[1]) and _is_word_pair(row[2])


def _has_form(value, many):
    """Whether a value is a pair of three walks and so many rows."""
    if not isinstance(value, tuple) or len(value) != 2:
        return False
    walks, rows = value
    if not isinstance(walks, tuple) or len(walks) != 3 or not isinstance(rows, tuple) or len(rows) != many:
        return False
    for walk in walks:
        if not is_word(walk):
            return False
    for row in rows:
        if not _is_row(row):
            return False
    return True


def _is_right(deed, other_deed, value, cell):
    """Whether the row for a cell of the other deed is right."""
    walks, rows = value
    row = rows[cell]
    if row[0] == "away":
        return walked_codes(other_deed, cell, walks[row[1]])[0] != cell
    if _away(other_deed, walks, cell) is not None:
        return False
    movers = _movers(walked_codes(other_deed, cell, walks[1])[1])
    if row[0] == "class":
        return not movers
    if (row[1][0], row[2][0]) not in (movers, movers[::-1]):
        return False
    return (_is_unlike(deed, other_deed, cell, row[1][0], row[1][1])
            and _is_unlike(deed, other_deed, cell, row[2][0], row[2][1]))


def need_refusal(deed, other_deed, value):
    """The value, if it is a refusal of the two whole deeds."""
    _need_like_many(deed, other_deed)
    if not _has_form(value, len(other_deed[0])):
        raise BadPaper("form")
    for sign, walk in zip(SIGNS, value[0]):
        if _walked_word(deed, 0, walk) != (0, sign):
            raise BadPaper("homes")
    for cell in range(len(other_deed[0])):
        if not _is_right(deed, other_deed, value, cell):
            raise BadPaper("rows")
    return value
