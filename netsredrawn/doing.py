"""Deeds done on nets."""

from netsredrawn.deeds import need_deed
from netsredrawn.errors import BadFlag, TooGreat
from netsredrawn.nets import need_net
from netsredrawn.steps import word_action, word_step
from netsredrawn.values import is_number_in, need_number_in

MOST_FLAGS = 960


def made_net(deed, net):
    """What a deed, or what keeps at least "form", makes of a net, with any number of flags."""
    many = len(deed[0])
    rows = []
    for row in deed:
        ways = [word_action(net, word) for _, word in row]
        made = []
        for flag in range(len(net[0])):
            for cell in range(many):
                made.append(ways[cell][flag] * many + row[cell][0])
        rows.append(tuple(made))
    return tuple(rows)


def need_made_flag(deed, net, flag):
    """The flag of what a deed makes of a net."""
    if not is_number_in(flag, 0, len(net[0]) * len(deed[0]) - 1):
        raise BadFlag(flag)
    return flag


def made_step(deed, net, flag, change):
    """The flag to which a change leads in what a deed makes of a net, told from this flag alone."""
    many = len(deed[0])
    there, word = deed[change][flag % many]
    return word_step(net, flag // many, word) * many + there


def done(deed, net):
    """What the deed done on the net gives."""
    need_deed(deed)
    need_net(net)
    if len(net[0]) * len(deed[0]) > MOST_FLAGS:
        raise TooGreat(MOST_FLAGS)
    return made_net(deed, net)


def flag_done(deed, net, flag, change):
    """The flag to which the change leads from a flag of what is done, however many flags that has."""
    need_deed(deed)
    need_net(net)
    need_made_flag(deed, net, flag)
    need_number_in(change, 0, 2)
    return made_step(deed, net, flag, change)
