"""Foldings of nets, their images, and nets over two nets."""

from netsredrawn.congruences import (
    class_steps, folding_classes, numbered_classes, stuck_flag, unkept_flag)
from netsredrawn.errors import BadLikeness, BadTable, TooGreat
from netsredrawn.likening import first_joined_map, least_part_form
from netsredrawn.nets import joined_net, need_flag, need_joined, need_net
from netsredrawn.shapes import is_likeness
from netsredrawn.steps import rounds_under
from netsredrawn.values import is_number_in

MOST_FLAGS = 960


def _need_two_joined(net, other_net):
    """Looks at two nets that must be joined."""
    need_net(net)
    need_net(other_net)
    joined_net(net)
    joined_net(other_net)


def fold_map(net, other_net):
    """The least folding of the one joined net onto the other one, or None."""
    _need_two_joined(net, other_net)
    return first_joined_map(net, other_net)


def is_fold_map(net, other_net, value):
    """Whether a value is a folding of the one joined net onto the other one."""
    _need_two_joined(net, other_net)
    if not isinstance(value, tuple) or len(value) != len(net[0]):
        return False
    for image in value:
        if not is_number_in(image, 0, len(other_net[0]) - 1):
            return False
    for change in range(3):
        for flag, image in enumerate(value):
            if value[net[change][flag]] != other_net[change][image]:
                return False
    return True


def fold_classes(net):
    """All ways of folding a joined net, ascending."""
    need_joined(net)
    if len(net[0]) > 96:
        raise TooGreat(96)
    rows = folding_classes(net, 500)
    if len(rows) > 500:
        raise TooGreat(500)
    return tuple(rows)


def images_of(net):
    """The least forms of all images, ascending by the number of flags, then by themselves."""
    found = {}
    for marks in fold_classes(net):
        image = class_steps(net, marks)
        found[least_part_form(image, list(range(len(image[0]))))] = True
    return tuple([form for _, form in sorted([(len(each[0]), each) for each in found])])


def _are_classes(net, marks):
    """Whether a value is classes of the flags of a net."""
    if not isinstance(marks, tuple) or len(marks) != len(net[0]):
        return False
    for mark in marks:
        if not is_number_in(mark, 0, len(marks) - 1):
            return False
    return marks == numbered_classes(marks)


def image_net(net, marks):
    """The image of classes of the flags of any net."""
    need_net(net)
    if not _are_classes(net, marks):
        raise BadTable("form", None)
    place = unkept_flag(net, marks)
    if place is not None:
        raise BadTable("changes", place)
    place = stuck_flag(net, marks)
    if place is not None:
        raise BadTable("net", place)
    return class_steps(net, marks)


def folded_by(net, likenesses):
    """The pair of the image and the classes that some symmetries make, or None without an image."""
    need_joined(net)
    if not isinstance(likenesses, tuple) or len(likenesses) > 50:
        raise BadLikeness(None)
    for place, value in enumerate(likenesses):
        if not is_likeness(net, net, value):
            raise BadLikeness(place)
    names = [0] * len(net[0])
    for row in rounds_under(likenesses, len(net[0])):
        for flag in row:
            names[flag] = row[0]
    marks = numbered_classes(names)
    if stuck_flag(net, marks) is not None:
        return None
    return class_steps(net, marks), marks


def over_both(net, flag, other_net, other_flag):
    """The pair of the net over two joined nets and the pairs of flags of its flags."""
    need_net(net)
    need_flag(net, flag)
    need_net(other_net)
    need_flag(other_net, other_flag)
    joined_net(net)
    joined_net(other_net)
    pairs = [(flag, other_flag)]
    place = {pairs[0]: 0}
    rows = [[], [], []]
    at = 0
    while at < len(pairs):
        one, other = pairs[at]
        at += 1
        for change in range(3):
            there = (net[change][one], other_net[change][other])
            if there not in place:
                if len(pairs) == MOST_FLAGS:
                    raise TooGreat(MOST_FLAGS)
                place[there] = len(pairs)
                pairs.append(there)
            rows[change].append(place[there])
    return tuple([tuple(row) for row in rows]), tuple(pairs)
