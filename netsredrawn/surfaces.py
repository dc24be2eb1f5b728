"""The surfaces on which nets lie."""

from netsredrawn.dyes import first_dyeing
from netsredrawn.errors import BadPair
from netsredrawn.nets import joined_net, need_net
from netsredrawn.rounds import PAIRS, pair_rounds
from netsredrawn.steps import all_parts, renumbered_net
from netsredrawn.values import is_number_in

MOST = 10 ** 30
ALL_CHANGES = 7


def is_two_sided(net):
    """Whether the net has a dyeing that all changes turn."""
    return first_dyeing(need_net(net), ALL_CHANGES) is not None


def _told_surface(net):
    """The surface of a joined net that was looked at."""
    corners, edges, faces = [len(pair_rounds(net, pair)) for pair in PAIRS]
    missing = 2 - (corners - edges + faces)
    if first_dyeing(net, ALL_CHANGES) is not None:
        return 2, missing // 2
    return 1, missing


def surface(net):
    """The surface of the joined net."""
    return _told_surface(joined_net(need_net(net)))


def surfaces(net):
    """The surfaces of the parts of the net."""
    need_net(net)
    return tuple([_told_surface(renumbered_net(net, part)) for part in all_parts(net)])


def _is_surface(value):
    """Whether a value is a pair that surface_word takes."""
    if not isinstance(value, tuple) or len(value) != 2:
        return False
    sides, many = value
    # The least number is 0 for two sides, 1 for one side.
    return is_number_in(sides, 1, 2) and is_number_in(many, 2 - sides, MOST)


def surface_word(pair):
    """The surface in a word."""
    if not _is_surface(pair):
        raise BadPair(pair)
    sides, many = pair
    if sides == 1:
        return str(many) + " caps"
    if many == 0:
        return "sphere"
    return str(many) + " handles"
