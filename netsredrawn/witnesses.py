"""Papers that tell why a walk meets always, never or sometimes."""

from netsredrawn.coming import flags_crossed, met_net, unmet_net
from netsredrawn.deeds import need_deed
from netsredrawn.errors import BadPaper
from netsredrawn.faults import need_fault
from netsredrawn.folding import spelled_paper, told_by_paper
from netsredrawn.meetings import crossed, how_it_meets, need_walk
from netsredrawn.nets import is_net
from netsredrawn.values import is_number_in


def meeting_paper(deed, cell, walk, pair):
    """A right meeting paper for the deed, the cell, the walk and the pair."""
    need_walk(deed, cell, walk, pair)
    closings, told = crossed(deed, cell, walk, pair)
    meets = how_it_meets(closings, told)
    if meets == "always":
        return "always", spelled_paper(closings, told)
    if meets == "sometimes":
        return "sometimes", met_net(closings, told), unmet_net(closings, told)
    if told is None:
        return "never", "elsewhere"
    return "never", "mirrors"


def _tells(closings, paper, told):
    """Whether a value is a paper for the closings that tells a crossing."""
    try:
        word = told_by_paper(closings, paper)
    except BadPaper:
        return False
    return word == told


def _is_place(value):
    """Whether a value is a pair of a net and a flag of it."""
    if not isinstance(value, tuple) or len(value) != 2:
        return False
    net, flag = value
    return is_net(net) and is_number_in(flag, 0, len(net[0]) - 1)


def _are_right_places(closings, told, where, without):
    """Whether two values are places of nets at which a walk meets, and does not meet."""
    if not _is_place(where) or not _is_place(without):
        return False
    if where[1] not in flags_crossed(where[0], closings, told):
        return False
    return without[1] not in flags_crossed(without[0], closings, told)


def _is_right_never(closings, told, reason):
    """Whether a value is the reason for which a walk never meets."""
    if not isinstance(reason, str):
        return False
    if told is None:
        return reason == "elsewhere"
    return reason == "mirrors" and how_it_meets(closings, told) == "never"


def is_meeting_paper(deed, cell, walk, pair, paper):
    """Whether a value is a right meeting paper for the deed, the cell, the walk and the pair."""
    need_walk(deed, cell, walk, pair)
    if not isinstance(paper, tuple) or not paper or not isinstance(paper[0], str):
        return False
    closings, told = crossed(deed, cell, walk, pair)
    if paper[0] == "always":
        return len(paper) == 2 and told is not None and _tells(closings, paper[1], told)
    if paper[0] == "never":
        return len(paper) == 2 and _is_right_never(closings, told, paper[1])
    return paper[0] == "sometimes" and len(paper) == 3 and _are_right_places(closings, told, paper[1], paper[2])


def cleaning(deed, name):
    """None of a deed that is clean of the fault, otherwise a cell, a net and a flag at which the walk meets."""
    need_deed(deed)
    walk, pair = need_fault(name)
    for cell in range(len(deed[0])):
        closings, told = crossed(deed, cell, walk, pair)
        if how_it_meets(closings, told) != "never":
            net, flag = met_net(closings, told)
            return cell, net, flag
    return None
