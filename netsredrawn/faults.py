"""Faults of nets: loops, wings, spikes and others, in nets and in all that deeds make."""

from netsredrawn.deeds import need_deed
from netsredrawn.doing import made_net
from netsredrawn.errors import BadName
from netsredrawn.meetings import crossed, how_it_meets
from netsredrawn.nets import need_net
from netsredrawn.steps import rounds_under, word_action

FAULTS = (
    ("loop", "0", "12"), ("wing", "2", "01"), ("spike", "12", ""), ("seam", "1212", ""),
    ("drop", "01", ""), ("lens", "0101", ""), ("pinch", "1212", "01"), ("chord", "010", "12"))


def need_fault(name):
    """The walk and the pair of the fault of this name."""
    if isinstance(name, str):
        for each, walk, pair in FAULTS:
            if each == name:
                return walk, pair
    raise BadName(name)


def fault_row(deed, walk, pair):
    """For each cell of a deed how a walk from it meets."""
    row = []
    for cell in range(len(deed[0])):
        closings, told = crossed(deed, cell, walk, pair)
        row.append(how_it_meets(closings, told))
    return tuple(row)


def _faulty_flags(net, walk, pair):
    """The flags of a net, of any number, from which a walk leads to a flag of their round."""
    places = {}
    for number, row in enumerate(rounds_under([net[int(sign)] for sign in pair], len(net[0]))):
        for flag in row:
            places[flag] = number
    return tuple([flag for flag, there in enumerate(word_action(net, walk)) if places[flag] == places[there]])


def faults_of(net, name):
    """The flags of the net at which the fault is there, ascending."""
    need_net(net)
    walk, pair = need_fault(name)
    return _faulty_flags(net, walk, pair)


def fault_table(deed):
    """For each fault its name and its fault row."""
    need_deed(deed)
    return tuple([(name, fault_row(deed, walk, pair)) for name, walk, pair in FAULTS])


def is_clean(deed, name):
    """Whether the deed is clean of the fault."""
    need_deed(deed)
    walk, pair = need_fault(name)
    return fault_row(deed, walk, pair) == ("never",) * len(deed[0])


def faults_made(deed, net, name):
    """The flags of what the deed makes of the net at which the fault is there, ascending."""
    need_deed(deed)
    need_net(net)
    walk, pair = need_fault(name)
    return _faulty_flags(made_net(deed, net), walk, pair)


def first_fault(deed, net):
    """The least flag of what the deed makes of the net at which a fault is there, and its first name, or None."""
    need_deed(deed)
    need_net(net)
    made = made_net(deed, net)
    best = None
    for name, walk, pair in FAULTS:
        flags = _faulty_flags(made, walk, pair)
        if flags and (best is None or flags[0] < best[0]):
            best = (flags[0], name)
    return best
