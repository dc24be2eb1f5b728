"""Renamings of deeds, and whether deeds are alike."""

from netsredrawn.deeds import need_deed
from netsredrawn.doing import need_made_flag
from netsredrawn.errors import BadRenaming, TooGreat
from netsredrawn.homes import whole_deed
from netsredrawn.moving import is_cell_row
from netsredrawn.nets import need_net
from netsredrawn.steps import word_step
from netsredrawn.syllables import back_text, is_reduced_text, joined_text
from netsredrawn.values import is_word
from netsredrawn.walkedforms import back_renaming, joined_renaming, least_forms, least_from

MOST_SIGNS = 20000


def need_whole_ones(deed, other_deed):
    """Looks whether the two are whole deeds."""
    need_deed(deed)
    need_deed(other_deed)
    whole_deed(deed)
    whole_deed(other_deed)


def found_renamings(deed, other_deed, most):
    """At most so many of the renamings of two whole deeds, by the images of cell 0."""
    if len(deed[0]) != len(other_deed[0]):
        return []
    key, renaming_there = least_from(deed, 0)
    found = []
    for other_key, other_renaming in least_forms(other_deed):
        if other_key == key and len(found) < most:
            found.append(joined_renaming(renaming_there, back_renaming(other_renaming)))
    return found


def _limited(told):
    """The renaming, if its words are short enough to be told."""
    for word in told[1]:
        if len(word) > MOST_SIGNS:
            raise TooGreat(MOST_SIGNS)
    return told


def renaming(deed, other_deed):
    """A renaming of the two whole deeds, or None."""
    need_whole_ones(deed, other_deed)
    found = found_renamings(deed, other_deed, 1)
    if not found:
        return None
    return _limited(found[0])


def all_renamings(deed, other_deed):
    """All renamings of the two whole deeds, ascending by the image of cell 0."""
    need_whole_ones(deed, other_deed)
    return tuple([_limited(told) for told in found_renamings(deed, other_deed, len(deed[0]))])


def are_alike_deeds(deed, other_deed):
    """Whether the two whole deeds are alike."""
    need_whole_ones(deed, other_deed)
    return found_renamings(deed, other_deed, 1) != []


def _has_renaming_form(deed, other_deed, value):
    """Whether a value tells a cell and a reduced word for each cell of two deeds."""
    many = len(deed[0])
    if len(other_deed[0]) != many or not isinstance(value, tuple) or len(value) != 2:
        return False
    cells, words = value
    if not is_cell_row(cells, many) or not isinstance(words, tuple) or len(words) != many:
        return False
    for word in words:
        if not is_word(word) or len(word) > MOST_SIGNS or not is_reduced_text(word):
            return False
    return True


def is_led(deed, other_deed, value, cell):
    """Whether a renaming, with words of any length, leads the steps of a cell rightly."""
    cells, words = value
    for change, row in enumerate(deed):
        there, word = row[cell]
        led = joined_text(joined_text(back_text(words[cell]), word), words[there])
        if other_deed[change][cells[cell]] != (cells[there], led):
            return False
    return True


def told_renaming(deed, other_deed, value):
    """The value, if it is a renaming of two deeds that were looked at."""
    if not _has_renaming_form(deed, other_deed, value):
        raise BadRenaming(None)
    for cell in range(len(deed[0])):
        if not is_led(deed, other_deed, value, cell):
            raise BadRenaming(cell)
    return value


def need_renaming(deed, other_deed, value):
    """The value, if it is a renaming of the two whole deeds."""
    need_whole_ones(deed, other_deed)
    return told_renaming(deed, other_deed, value)


def image_flag(deed, other_deed, value, net, flag):
    """The flag to which a flag of what the one deed makes of the net goes in what the other one makes."""
    cells, words = need_renaming(deed, other_deed, value)
    need_net(net)
    need_made_flag(deed, net, flag)
    many = len(deed[0])
    cell = flag % many
    return word_step(net, flag // many, words[cell]) * many + cells[cell]
