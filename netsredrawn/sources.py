"""Sources: the nets, and the deeds, from which a whole deed leads to a net or a deed."""

from netsredrawn.barring import barred_flags
from netsredrawn.deeds import need_deed
from netsredrawn.errors import BadPaper
from netsredrawn.homes import whole_deed
from netsredrawn.moving import short_deed
from netsredrawn.nets import joined_net, need_net
from netsredrawn.pastnets import past_nets
from netsredrawn.pasts import past_deeds
from netsredrawn.renamings import need_whole_ones
from netsredrawn.steps import word_step
from netsredrawn.syllables import is_mirror_row
from netsredrawn.values import is_word
from netsredrawn.walks import walked_codes

KINDS = ("away", "moved", "mirror")


def _need_both(deed, net):
    """Looks whether there are a whole deed and a joined net."""
    need_deed(deed)
    need_net(net)
    whole_deed(deed)
    joined_net(net)


def sources(deed, net):
    """The least form of each source of the net by the deed, with a likeness of what is done on it and the net."""
    _need_both(deed, net)
    return tuple(past_nets(deed, net))


def comes_of(deed, net):
    """Whether the net has a source by the deed."""
    _need_both(deed, net)
    return past_nets(deed, net) != []


def refusal_to_come(deed, net):
    """A refusal to come of the net by the deed, or None if it has a source."""
    _need_both(deed, net)
    return barred_flags(deed, net)


def _has_form(paper, many):
    """Whether a value is a tuple of so many rows, each a word of the three and a walk."""
    if not isinstance(paper, tuple) or len(paper) != many:
        return False
    for row in paper:
        if not isinstance(row, tuple) or len(row) != 2 or not isinstance(row[0], str):
            return False
        if row[0] not in KINDS or not is_word(row[1]):
            return False
    return True


def _is_right(deed, net, flag, row):
    """Whether the row of a flag is right."""
    kind, walk = row
    # Only a walk that gathers "" is to lead to another flag.
    if (word_step(net, flag, walk) == flag) == (kind == "moved"):
        return False
    there, codes = walked_codes(deed, 0, walk)
    if kind == "away":
        return there != 0
    if kind == "moved":
        return there == 0 and not codes
    return there == 0 and is_mirror_row(codes)


def need_refusal_to_come(deed, net, paper):
    """The refusal to come of the net by the deed."""
    _need_both(deed, net)
    if not _has_form(paper, len(net[0])):
        raise BadPaper("form")
    for flag, row in enumerate(paper):
        if not _is_right(deed, net, flag, row):
            raise BadPaper("walk")
    return paper


def deed_sources(deed, other_deed):
    """The least deeds of all deeds from which the deed leads to one alike to the other one, ascending."""
    need_whole_ones(deed, other_deed)
    return tuple([short_deed(told) for told in past_deeds(deed, other_deed)])
