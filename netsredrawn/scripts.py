"""Scripts of names: their form, the deeds that they do, and books of names."""

from netsredrawn.deeds import need_deed
from netsredrawn.errors import BadName, BadScript, TooGreat
from netsredrawn.lettering import is_name
from netsredrawn.values import is_number_in

MOST_ITEMS = 60
MOST_ROWS = 10
MOST_TIMES = 2
GREATEST = 10 ** 30 - 1
MOST_NAMES = 1000
MOST_PAIRS = 40


def _is_kind(value, kind, many):
    """Whether a value is a tuple of so many things that begins with a word."""
    return isinstance(value, tuple) and len(value) == many and isinstance(value[0], str) and value[0] == kind


def _is_row(value):
    """Whether a value is by itself a row of scripts."""
    return _is_kind(value, "row", 2) and isinstance(value[1], tuple) and len(value[1]) <= MOST_ITEMS


def _names_passed(script, names, rows, times):
    """How many names stand ahead of the end of a script, if so many stand ahead of it.

    So many rows stand around it, and so many "times" directly around it.
    """
    if is_name(script):
        return names + 1
    if _is_row(script) and rows < MOST_ROWS:
        for each in script[1]:
            names = _names_passed(each, names, rows + 1, 0)
        return names
    if not _is_kind(script, "times", 3) or times == MOST_TIMES:
        raise BadScript(names)
    names = _names_passed(script[1], names, rows, times + 1)
    if not is_number_in(script[2], 0, GREATEST):
        raise BadScript(names)
    return names


def need_script(script):
    """The script."""
    _names_passed(script, 0, 0, 0)
    return script


def all_names(script):
    """All names that stand in a script that was looked at, from the left."""
    if isinstance(script, str):
        return [script]
    if script[0] == "times":
        return all_names(script[1])
    names = []
    for each in script[1]:
        names.extend(all_names(each))
    return names


def names_done(script):
    """All names that stand in a script that was looked at and are done at least once."""
    if isinstance(script, str):
        return [script]
    if script[0] == "times":
        if script[2] == 0:
            return []
        return names_done(script[1])
    names = []
    for each in script[1]:
        names.extend(names_done(each))
    return names


def _how_many(script):
    """How many deeds a script does."""
    if isinstance(script, str):
        return 1
    if script[0] == "times":
        return _how_many(script[1]) * script[2]
    return sum([_how_many(each) for each in script[1]])


def _names_in_order(script):
    """The names of the deeds that a script does, which are not too many."""
    if isinstance(script, str):
        return [script]
    names = []
    if script[0] == "times":
        # What does nothing may be done very often.
        if _how_many(script) > 0:
            names = _names_in_order(script[1]) * script[2]
        return names
    for each in script[1]:
        names.extend(_names_in_order(each))
    return names


def told_names(script):
    """The names of the deeds that a script that was looked at does, in their order."""
    if _how_many(script) > MOST_NAMES:
        raise TooGreat(MOST_NAMES)
    return tuple(_names_in_order(script))


def script_names(script):
    """The names of the deeds that the script does, in their order."""
    return told_names(need_script(script))


def _are_pairs(value):
    """Whether a value is a tuple of not too many pairs."""
    if not isinstance(value, tuple) or len(value) > MOST_PAIRS:
        return False
    for pair in value:
        if not isinstance(pair, tuple) or len(pair) != 2:
            return False
    return True


def need_named_book(book):
    """The book of names."""
    if not _are_pairs(book):
        raise BadName(None)
    met = {}
    for name, deed in book:
        if not is_name(name) or name in met:
            raise BadName(name)
        met[name] = True
        need_deed(deed)
    return book
