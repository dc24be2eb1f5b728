"""Covers of nets, which have dyeings for the signs that one wishes."""

from netsredrawn.deeds import need_deed
from netsredrawn.dyes import counted, need_sign, net_signs
from netsredrawn.errors import BadSign, TooGreat
from netsredrawn.homes import whole_deed
from netsredrawn.nets import joined_net, need_net
from netsredrawn.signs import sign_and_bits

MOST_FLAGS = 960


def _need_wished(wished, most):
    """The tuple of at most so many signs."""
    if not isinstance(wished, tuple) or len(wished) > most:
        raise BadSign(wished)
    for sign in wished:
        need_sign(sign)
    return wished


def _need_few(many):
    """Looks whether a net has few enough flags to be told."""
    if many > MOST_FLAGS:
        raise TooGreat(MOST_FLAGS)


def _copies(wished):
    """How many flags of the cover stand for one flag."""
    return 1 << len(wished)


def _told_cover(net, wished):
    """The cover of a net that was looked at for at most three signs."""
    copies = _copies(wished)
    _need_few(len(net[0]) * copies)
    rows = []
    for change in range(3):
        turned = sum([counted(sign, change) << place for place, sign in enumerate(wished)])
        row = []
        for there in net[change]:
            row.extend([there * copies + (bits ^ turned) for bits in range(copies)])
        rows.append(tuple(row))
    return tuple(rows)


def cover(net, wished):
    """The cover of the net for at most three signs."""
    need_net(net)
    return _told_cover(net, _need_wished(wished, 3))


def _independent(net, wished):
    """The independent ones of some signs on a net."""
    had = list(net_signs(net))
    told = []
    for sign in wished:
        if sign not in had:
            told.append(sign)
            had = had + [sign ^ other for other in had]
    return tuple(told)


def independent_signs(net, wished):
    """The independent ones of at most eight signs on the joined net."""
    need_net(net)
    _need_wished(wished, 8)
    return _independent(joined_net(net), wished)


def least_cover(net, wished):
    """The least cover of the joined net for at most eight signs."""
    return _told_cover(net, independent_signs(net, wished))


def exchange(deed, net, sign):
    """The likeness of what the deed makes of a cover and a cover of what it makes, or None."""
    need_deed(deed)
    need_net(net)
    need_sign(sign)
    told, cells = sign_and_bits(whole_deed(deed), sign)
    if told is None:
        return None
    many = len(deed[0])
    _need_few(len(net[0]) * 2 * many)
    images = []
    for flag in range(len(net[0])):
        for bit in range(2):
            images.extend([(flag * many + cell) * 2 + (bit ^ cells[cell]) for cell in range(many)])
    return tuple(images)
