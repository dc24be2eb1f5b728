"""The nets that a whole deed leads to a joined net, unchecked."""

from netsredrawn.doing import made_net
from netsredrawn.likening import image_fault
from netsredrawn.nets import is_net
from netsredrawn.pasts import all_cells, net_steps, past_steps
from netsredrawn.steps import met_flags, renumbered_net


def _past_net(net, deed, cells):
    """A net and its likeness, if the flags have these cells of the deed, or None.

    The likeness tells for each flag of the net the one of what the deed makes.
    """
    past = past_steps(net_steps(net), deed, cells)
    if past is None:
        return None
    source = tuple([tuple([there for there, _ in row]) for row in past[0]])
    many = len(deed[0])
    images = [spot * many + cell for spot, cell in zip(past[1], cells)]
    if not is_net(source) or image_fault(net, made_net(deed, source), images) is not None:
        return None
    return source, images


def _least_order(net):
    """The pair of the least form of a joined net and its flags in the order of this form."""
    best = None
    for flag in range(len(net[0])):
        order = met_flags(net, flag)
        form = renumbered_net(net, order)
        if best is None or form < best[0]:
            best = (form, order)
    return best


def past_nets(deed, net):
    """The least form of each source, ascending, with a likeness of what is done on it and the net."""
    many = len(deed[0])
    found = {}
    for cells in all_cells(net_steps(net), deed):
        told = _past_net(net, deed, cells)
        if told is None:
            continue
        form, order = _least_order(told[0])
        flags = {image: flag for flag, image in enumerate(told[1])}
        if form not in found:
            found[form] = tuple([flags[old * many + cell] for old in order for cell in range(many)])
    return sorted([(form, found[form]) for form in found])
