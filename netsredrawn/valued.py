"""What scripts of names do with a book of names.

The deeds of a book are a dict here, from names to deeds.
"""

from netsredrawn.deeds import MOST_CELLS
from netsredrawn.doing import made_net
from netsredrawn.dyes import need_sign
from netsredrawn.errors import BadName, TooGreat
from netsredrawn.homes import whole_deed
from netsredrawn.least import least_rows
from netsredrawn.moving import short_deed
from netsredrawn.nets import need_net
from netsredrawn.scripts import all_names, names_done, need_named_book, need_script, told_names
from netsredrawn.sequence import SAME, after_rows
from netsredrawn.signs import sign_through, told_signs

MOST_FLAGS = 960
MOST_CELLS_TOLD = 10 ** 60
SAME_SIGNS = (0, 1, 2, 3, 4, 5, 6, 7)


def need_names(script, deeds):
    """Looks whether the deeds have all names of a script."""
    for name in all_names(script):
        if name not in deeds:
            raise BadName(name)


def _need_deeds(script, book):
    """The deeds of a book for a script."""
    need_script(script)
    deeds = {name: deed for name, deed in need_named_book(book)}
    need_names(script, deeds)
    return deeds


def _need_whole_ones(script, deeds):
    """Looks whether all deeds that a script does are whole."""
    met = {}
    for name in names_done(script):
        if name not in met:
            met[name] = True
            whole_deed(deeds[name])


def _bounded_power(number, times, most):
    """The power of a number from 1 on, or most if it is greater."""
    told = 1
    while times > 0:
        if times & 1:
            told = min(told * number, most)
        number = min(number * number, most)
        times = times >> 1
    return told


def _cells(script, deeds, most):
    """How many cells a script has, or most if they are more."""
    if isinstance(script, str):
        return min(len(deeds[script][0]), most)
    if script[0] == "times":
        return _bounded_power(_cells(script[1], deeds, most), script[2], most)
    told = 1
    for each in script[1]:
        told = min(told * _cells(each, deeds, most), most)
    return told


def script_cells(script, book):
    """How many cells the script has."""
    deeds = _need_deeds(script, book)
    told = _cells(script, deeds, MOST_CELLS_TOLD + 1)
    if told > MOST_CELLS_TOLD:
        raise TooGreat(MOST_CELLS_TOLD)
    return told


def told_done(script, deeds, net):
    """The net that the deeds of a script make of a net, one after another."""
    for name in told_names(script):
        if len(net[0]) * len(deeds[name][0]) > MOST_FLAGS:
            raise TooGreat(MOST_FLAGS)
        net = made_net(deeds[name], net)
    return net


def script_done(script, book, net):
    """The net that the deeds of the script make of the net, one after another."""
    deeds = _need_deeds(script, book)
    return told_done(script, deeds, need_net(net))


def _least_behind(told, deed):
    """The least deed of one deed and then another one."""
    return short_deed(least_rows(short_deed(after_rows(told, deed))))


def _value(script, deeds):
    """The least deed of what a script does, which has few enough cells."""
    if isinstance(script, str):
        return short_deed(least_rows(deeds[script]))
    told = short_deed(least_rows(SAME))
    if script[0] == "row":
        for each in script[1]:
            told = _least_behind(told, _value(each, deeds))
        return told
    if script[2] == 0:
        return told
    deed = _value(script[1], deeds)
    times = script[2]
    # Least deeds of one cell are six, and each of them done six times is "same".
    if len(deed[0]) == 1:
        times = times % 6
    for _ in range(times):
        told = _least_behind(told, deed)
    return told


def _told_least(script, deeds):
    """The least deed of what a script of whole deeds does."""
    if _cells(script, deeds, MOST_CELLS + 1) > MOST_CELLS:
        raise TooGreat(MOST_CELLS)
    return _value(script, deeds)


def script_least(script, book):
    """The least deed of what the script does."""
    deeds = _need_deeds(script, book)
    _need_whole_ones(script, deeds)
    return _told_least(script, deeds)


def told_alike(script, other_script, deeds):
    """Whether two scripts that were looked at have one least deed."""
    need_names(script, deeds)
    need_names(other_script, deeds)
    _need_whole_ones(script, deeds)
    _need_whole_ones(other_script, deeds)
    first = _told_least(script, deeds)
    return first == _told_least(other_script, deeds)


def are_alike_scripts(script, other_script, book):
    """Whether both scripts have one least deed."""
    need_script(script)
    need_script(other_script)
    deeds = {name: deed for name, deed in need_named_book(book)}
    return told_alike(script, other_script, deeds)


def _signs_through(table, other_table):
    """The sign table of one deed and then another one."""
    return tuple([sign_through(table, sign) for sign in other_table])


def _signs(script, deeds):
    """The sign table of what a script does."""
    if isinstance(script, str):
        return told_signs(deeds[script])
    told = SAME_SIGNS
    if script[0] == "row":
        for each in script[1]:
            told = _signs_through(told, _signs(each, deeds))
        return told
    times = script[2]
    if times > 0:
        table = _signs(script[1], deeds)
        while times > 0:
            if times & 1:
                told = _signs_through(told, table)
            table = _signs_through(table, table)
            times = times >> 1
    return told


def told_dye(script, deeds, sign):
    """What the sign table of what a script does tells for a sign."""
    _need_whole_ones(script, deeds)
    return _signs(script, deeds)[sign]


def script_dye(script, book, sign):
    """What the sign table of what the script does tells for the sign."""
    deeds = _need_deeds(script, book)
    return told_dye(script, deeds, need_sign(sign))
