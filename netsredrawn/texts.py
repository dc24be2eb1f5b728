"""Texts of words, nets, deeds and scripts."""

from netsredrawn.deeds import need_deed
from netsredrawn.nets import need_net
from netsredrawn.scripts import need_script
from netsredrawn.words import reduced


def told_item(word):
    """The item of a reduced word."""
    if word == "":
        return "-"
    return word


def word_item(word):
    """The item of the word."""
    return told_item(reduced(word))


def net_lines(net):
    """The lines of the text of a net that was looked at."""
    return [" ".join([str(flag) for flag in row]) for row in net]


def net_text(net):
    """The text of the net."""
    return "\n".join(net_lines(need_net(net)))


def step_item(step):
    """The item of a step, or of a cell and a reduced word."""
    cell, word = step
    return str(cell) + ":" + told_item(word)


def deed_lines(deed):
    """The lines of the text of a deed that was looked at."""
    return [" ".join([step_item(row[cell]) for row in deed]) for cell in range(len(deed[0]))]


def deed_text(deed):
    """The text of the deed."""
    return "\n".join(deed_lines(need_deed(deed)))


def _told_script(script):
    """The text of a script that was looked at."""
    if isinstance(script, str):
        return script
    if script[0] == "times":
        return _told_script(script[1]) + "*" + str(script[2])
    return "(" + " ".join([_told_script(each) for each in script[1]]) + ")"


def script_text(script):
    """The text of the script."""
    return _told_script(need_script(script))
