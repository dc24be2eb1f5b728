"""Nets: their rules, and where words lead in them."""

from netsredrawn.errors import BadFlag, BadNet, NotJoined, TooGreat
from netsredrawn.steps import all_parts, met_flags, renumbered_net, word_action, word_step
from netsredrawn.values import is_number_in, need_word

MOST_FLAGS = 960


def _has_net_form(value):
    """Whether a value is a triple of tuples of one length, with flags as items."""
    if not isinstance(value, tuple) or len(value) != 3:
        return False
    if not isinstance(value[0], tuple) or not 4 <= len(value[0]) <= MOST_FLAGS:
        return False
    many = len(value[0])
    for row in value:
        if not isinstance(row, tuple) or len(row) != many:
            return False
        for item in row:
            if not is_number_in(item, 0, many - 1):
                return False
    return True


def _fails(net, rule, flag):
    """Whether a rule behind "form" fails at a flag."""
    zero, one, two = net
    if rule == "back":
        return zero[zero[flag]] != flag or one[one[flag]] != flag or two[two[flag]] != flag
    if rule == "still":
        return zero[flag] == flag or one[flag] == flag or two[flag] == flag
    if rule == "square":
        return two[zero[flag]] != zero[two[flag]]
    return two[zero[flag]] == flag


def net_fault(value):
    """None for a net, otherwise the pair of the rule that fails and the least flag."""
    if not _has_net_form(value):
        return "form", None
    for rule in ("back", "still", "square", "apart"):
        for flag in range(len(value[0])):
            if _fails(value, rule, flag):
                return rule, flag
    return None


def is_net(value):
    """Whether a value is a net."""
    return net_fault(value) is None


def need_net(net):
    """The net."""
    fault = net_fault(net)
    if fault is not None:
        raise BadNet(fault[0], fault[1])
    return net


def need_flag(net, flag):
    """The flag of a net that was looked at."""
    if not is_number_in(flag, 0, len(net[0]) - 1):
        raise BadFlag(flag)
    return flag


def lead(net, flag, word):
    """The flag to which the word leads."""
    need_net(net)
    need_flag(net, flag)
    return word_step(net, flag, need_word(word))


def path(net, flag, word):
    """The flag, and behind it where each further character of the word leads."""
    need_net(net)
    need_flag(net, flag)
    need_word(word)
    flags = [flag]
    for sign in word:
        flags.append(net[int(sign)][flags[-1]])
    return tuple(flags)


def action(net, word):
    """The flags to which the word leads from all flags."""
    need_net(net)
    return word_action(net, need_word(word))


def way(net, flag, other_flag):
    """The least word that leads from the one flag to the other one, or None."""
    need_net(net)
    need_flag(net, flag)
    need_flag(net, other_flag)
    ways = {flag: ""}
    # Each flag is first met by its least word, for they are gone through by their words.
    for here in met_flags(net, flag):
        for sign in "012":
            there = net[int(sign)][here]
            if there not in ways:
                ways[there] = ways[here] + sign
    return ways.get(other_flag, None)


def parts(net):
    """The parts of a net."""
    return all_parts(need_net(net))


def is_joined(net):
    """Whether a net has one part."""
    return len(met_flags(need_net(net), 0)) == len(net[0])


def joined_net(net):
    """A net that was looked at, if it is joined."""
    met = {flag: True for flag in met_flags(net, 0)}
    for flag in range(len(net[0])):
        if flag not in met:
            raise NotJoined(flag)
    return net


def need_joined(net):
    """The net, if it is a joined one."""
    return joined_net(need_net(net))


def part_net(net, flag):
    """The pair of the net of the part of a flag and the flags of this part."""
    need_net(net)
    need_flag(net, flag)
    flags = tuple(sorted(met_flags(net, flag)))
    return renumbered_net(net, flags), flags


def beside(net, other_net):
    """The one net beside the other one."""
    need_net(net)
    need_net(other_net)
    many = len(net[0])
    if many + len(other_net[0]) > MOST_FLAGS:
        raise TooGreat(MOST_FLAGS)
    rows = []
    for change in range(3):
        rows.append(net[change] + tuple([many + flag for flag in other_net[change]]))
    return tuple(rows)
