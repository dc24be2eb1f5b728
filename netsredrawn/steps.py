"""Steps through nets, unchecked: where changes and words lead, and what they reach."""

from netsredrawn.syllables import reduced_text


def word_step(net, flag, word):
    """The flag to which a word leads."""
    for sign in word:
        flag = net[int(sign)][flag]
    return flag


def word_action(net, word):
    """The flags to which a word leads from all flags."""
    flags = list(range(len(net[0])))
    for sign in reduced_text(word):
        row = net[int(sign)]
        flags = [row[flag] for flag in flags]
    return tuple(flags)


def met_flags(net, flag):
    """The flags of a part in the order in which they are first met."""
    zero, one, two = net
    order = [flag]
    met = {flag: True}
    at = 0
    while at < len(order):
        here = order[at]
        for there in (zero[here], one[here], two[here]):
            if there not in met:
                met[there] = True
                order.append(there)
        at += 1
    return order


def all_parts(net):
    """The parts of a net, each ascending, by their least flags."""
    met = {}
    parts = []
    for flag in range(len(net[0])):
        if flag not in met:
            part = tuple(sorted(met_flags(net, flag)))
            parts.append(part)
            for each in part:
                met[each] = True
    return tuple(parts)


def renumbered_net(net, flags):
    """The net of some flags, closed under the changes, numbered in the order told."""
    place = {}
    for number, old in enumerate(flags):
        place[old] = number
    return tuple([tuple([place[row[flag]] for flag in flags]) for row in net])


def net_cycles(action):
    """The cycles of an action on the flags, each beginning with its least flag."""
    met = {}
    cycles = []
    for flag in range(len(action)):
        if flag not in met:
            cycle = cycle_from(action, flag)
            cycles.append(cycle)
            for each in cycle:
                met[each] = True
    return cycles


def cycle_from(action, flag):
    """The cycle of a flag under an action on the flags."""
    cycle = [flag]
    there = action[flag]
    while there != flag:
        cycle.append(there)
        there = action[there]
    return cycle


def rounds_under(actions, many):
    """The rounds of so many flags under some actions, each ascending, by their least flags."""
    backs = [back_action(action) for action in actions]
    met = {}
    rows = []
    for flag in range(many):
        if flag in met:
            continue
        met[flag] = True
        row = [flag]
        at = 0
        while at < len(row):
            for action in list(actions) + backs:
                there = action[row[at]]
                if there not in met:
                    met[there] = True
                    row.append(there)
            at += 1
        rows.append(tuple(sorted(row)))
    return tuple(rows)


def back_action(action):
    """The action that undoes one."""
    told = [0] * len(action)
    for flag, there in enumerate(action):
        told[there] = flag
    return tuple(told)
