"""Small nets of which two deeds make nets that aren't alike."""

from netsredrawn.deeds import need_deed
from netsredrawn.doing import made_net
from netsredrawn.errors import BadNumber
from netsredrawn.likening import least_likeness
from netsredrawn.listing import all_nets
from netsredrawn.values import is_number


def first_parting(deed, other_deed, most):
    """The first net of up to most flags of which the deeds make nets that aren't alike, or None."""
    need_deed(deed)
    need_deed(other_deed)
    if not is_number(most) or most not in (4, 8, 12):
        raise BadNumber(most)
    for many in range(4, most + 1, 4):
        for net in all_nets(many):
            if least_likeness(made_net(deed, net), made_net(other_deed, net)) is None:
                return net
    return None
