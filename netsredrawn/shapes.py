"""Readings, least forms, likenesses and symmetries of nets."""

from math import factorial

from netsredrawn.errors import BadLikeness
from netsredrawn.likening import (
    image_fault, joined_maps, least_likeness, least_part_form, led_along, reading)
from netsredrawn.nets import joined_net, need_flag, need_joined, need_net
from netsredrawn.steps import all_parts
from netsredrawn.values import is_number_in


def reading_from(net, flag):
    """The reading of a joined net from a flag."""
    need_net(net)
    need_flag(net, flag)
    return reading(joined_net(net), flag)


def least_net(net):
    """The least form of a net."""
    need_net(net)
    forms = [least_part_form(net, part) for part in all_parts(net)]
    rows = [[], [], []]
    for _, form in sorted([(len(each[0]), each) for each in forms]):
        ahead = len(rows[0])
        for change in range(3):
            rows[change] = rows[change] + [ahead + flag for flag in form[change]]
    return tuple([tuple(row) for row in rows])


def likeness(net, other_net):
    """The least likeness of the two nets, or None."""
    need_net(net)
    need_net(other_net)
    return least_likeness(net, other_net)


def are_alike(net, other_net):
    """Whether there is a likeness of the two nets."""
    return likeness(net, other_net) is not None


def _has_likeness_form(net, other_net, value):
    """Whether a value is a tuple that tells a flag for each flag of two nets of one length."""
    many = len(net[0])
    if many != len(other_net[0]) or not isinstance(value, tuple) or len(value) != many:
        return False
    for image in value:
        if not is_number_in(image, 0, many - 1):
            return False
    return True


def is_likeness(net, other_net, value):
    """Whether a value is a likeness of the two nets."""
    need_net(net)
    need_net(other_net)
    return _has_likeness_form(net, other_net, value) and image_fault(net, other_net, value) is None


def need_likeness(net, other_net, likeness_told):
    """The likeness of the two nets that was told."""
    need_net(net)
    need_net(other_net)
    if not _has_likeness_form(net, other_net, likeness_told):
        raise BadLikeness(None)
    place = image_fault(net, other_net, likeness_told)
    if place is not None:
        raise BadLikeness(place)
    return likeness_told


def symmetries(net):
    """All symmetries of a joined net, ascending."""
    return tuple(joined_maps(need_joined(net), net))


def symmetry_number(net):
    """How many symmetries a net of any number of parts has."""
    need_net(net)
    counts = {}
    number = 1
    for part in all_parts(net):
        form = least_part_form(net, part)
        counts[form] = counts.get(form, 0) + 1
        number = number * len([flag for flag in part if led_along(net, net, part[0], flag) is not None])
    for form in counts:
        number = number * factorial(counts[form])
    return number
