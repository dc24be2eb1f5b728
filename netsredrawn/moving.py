"""Deeds with their cells in another order, or moved by words."""

from netsredrawn.deeds import MOST_SIGNS, need_deed
from netsredrawn.errors import BadNumber, BadWord, TooGreat
from netsredrawn.syllables import back_text, is_reduced_text, joined_text
from netsredrawn.values import is_number_in, need_word


def renumbered_rows(deed, order):
    """A deed, with words of any length, whose cell K is the cell order[K]."""
    spots = {cell: spot for spot, cell in enumerate(order)}
    return tuple([tuple([(spots[row[cell][0]], row[cell][1]) for cell in order]) for row in deed])


def moved_rows(deed, words):
    """A deed, with words of any length, moved by a reduced word for each cell."""
    backs = [back_text(word) for word in words]
    rows = []
    for row in deed:
        steps = []
        for cell, (there, word) in enumerate(row):
            steps.append((there, joined_text(joined_text(backs[cell], word), words[there])))
        rows.append(tuple(steps))
    return tuple(rows)


def longest_word(deed):
    """How many characters the longest word of a deed has."""
    return max([max([len(word) for _, word in row]) for row in deed])


def short_deed(deed):
    """The deed, if no word in it is too long."""
    if longest_word(deed) > MOST_SIGNS:
        raise TooGreat(MOST_SIGNS)
    return deed


def is_cell_row(value, many):
    """Whether a value is a tuple of all cells of so many, each once."""
    if not isinstance(value, tuple) or len(value) != many:
        return False
    for cell in value:
        if not is_number_in(cell, 0, many - 1):
            return False
    return sorted(value) == list(range(many))


def renumbered(deed, order):
    """The deed renumbered by an order of its cells."""
    need_deed(deed)
    if not is_cell_row(order, len(deed[0])):
        raise BadNumber(order)
    return renumbered_rows(deed, order)


def _need_movers(wordlist, many):
    """The tuple of so many reduced words."""
    if not isinstance(wordlist, tuple) or len(wordlist) != many:
        raise BadWord(None)
    for word in wordlist:
        if not isinstance(word, str):
            raise BadWord(None)
    for word in wordlist:
        if not is_reduced_text(need_word(word)):
            raise BadWord(None)
    return wordlist


def moved(deed, wordlist):
    """The deed moved by a reduced word for each cell."""
    need_deed(deed)
    _need_movers(wordlist, len(deed[0]))
    return short_deed(moved_rows(deed, wordlist))
