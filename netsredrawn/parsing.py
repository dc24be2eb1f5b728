"""Nets, deeds and scripts that texts tell."""

from netsredrawn.deeds import need_deed
from netsredrawn.nets import need_net
from netsredrawn.reader import Reader
from netsredrawn.reading import read_deed, read_net, read_script


def parse_net(text):
    """The net that the text tells."""
    reader = Reader(text)
    net = read_net(reader, "")
    reader.expect_end()
    return need_net(net)


def parse_deed(text):
    """The deed that the text tells."""
    reader = Reader(text)
    deed = read_deed(reader, "")
    reader.expect_end()
    return need_deed(deed)


def parse_script(text):
    """The script that the text tells."""
    reader = Reader(text)
    script = read_script(reader)
    reader.expect_end()
    return script
