"""The fourteen deeds that have names."""

from netsredrawn.errors import BadName
from netsredrawn.sequence import script_of

NAMES = ("same", "flip", "twist", "spin", "wheel", "unwheel", "half", "twin", "middle", "cut",
         "raise", "join", "spread", "bevel")
DEEDS = {
    "same": (((0, "0"),), ((0, "1"),), ((0, "2"),)),
    "flip": (((0, "2"),), ((0, "1"),), ((0, "0"),)),
    "twist": (((0, "02"),), ((0, "1"),), ((0, "2"),)),
    "spin": (((0, "0"),), ((0, "1"),), ((0, "02"),)),
    "wheel": (((0, "2"),), ((0, "1"),), ((0, "02"),)),
    "unwheel": (((0, "02"),), ((0, "1"),), ((0, "0"),)),
    "half": (((1, ""), (0, "")), ((0, "1"), (1, "0")), ((0, "2"), (1, "2"))),
    "twin": (((0, "0"), (1, "0")), ((0, "1"), (1, "2")), ((1, ""), (0, ""))),
    "middle": (((0, "1"), (1, "1")), ((0, "0"), (1, "2")), ((1, ""), (0, ""))),
    "cut": (((0, "0"), (1, "1"), (2, "1")), ((1, ""), (0, ""), (2, "2")), ((0, "2"), (2, ""), (1, ""))),
}
SCRIPTS = {
    "raise": ("flip", "cut", "flip"),
    "join": ("middle", "flip"),
    "spread": ("middle", "middle"),
    "bevel": ("middle", "cut"),
}


def deed_named(name):
    """The deed of a name."""
    if not isinstance(name, str) or name not in NAMES:
        raise BadName(name)
    if name in DEEDS:
        return DEEDS[name]
    return script_of(tuple([DEEDS[part] for part in SCRIPTS[name]]))
