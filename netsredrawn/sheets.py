"""Sheets: entries of nets, deeds and scripts, and verdicts on them that are so or not."""

from netsredrawn.cellwebs import is_whole_rows
from netsredrawn.deeds import need_deed
from netsredrawn.errors import BadName, NetError
from netsredrawn.live import Board
from netsredrawn.nets import need_flag, need_net
from netsredrawn.reader import Reader
from netsredrawn.reading import read_deed, read_net, read_script
from netsredrawn.scripts import told_names
from netsredrawn.shapes import are_alike
from netsredrawn.steps import word_step
from netsredrawn.valued import need_names, told_alike, told_done, told_dye

ENTRIES = ("net ", "deed ", "script ")
VERDICTS = ("whole ", "alike ", "makes ", "counts ", "dyes ", "leads ")
SIGNS = ("0", "1", "2", "3", "4", "5", "6", "7")
MOST_DIGITS = 30
MOST_SIGNS = 60


def _read_entry(reader, sort):
    """Read an entry behind its first word."""
    name = reader.read_name()
    reader.expect("\n")
    if sort == "net":
        return sort, name, read_net(reader, "- ")
    if sort == "deed":
        return sort, name, read_deed(reader, "- ")
    reader.expect("- ")
    return sort, name, read_script(reader)


def _read_names(reader, many):
    """Read so many names with a blank between two."""
    names = [reader.read_name()]
    while len(names) < many:
        reader.expect(" ")
        names.append(reader.read_name())
    return tuple(names)


def _read_numbers(reader, many):
    """Read so many integers, a blank ahead of each."""
    numbers = []
    while len(numbers) < many:
        reader.expect(" ")
        numbers.append(reader.read_number(MOST_DIGITS))
    return tuple(numbers)


def _read_dyes(reader):
    """Read a name and what it tells for a sign."""
    name = reader.read_name()
    reader.expect(" ")
    sign = int(reader.one_of(SIGNS))
    reader.expect(" ")
    told = reader.one_of(SIGNS + ("never",))
    if told == "never":
        return name, sign, None
    return name, sign, int(told)


def _read_leads(reader):
    """Read a name, a flag, a word and where it leads."""
    name = reader.read_name()
    flag = _read_numbers(reader, 1)
    reader.expect(" ")
    word = reader.read_word(MOST_SIGNS)
    return (name,) + flag + (word,) + _read_numbers(reader, 1)


def _read_verdict(reader, kind):
    """Read a verdict behind its first word: a pair of this word and what else it tells."""
    if kind == "whole":
        return kind, _read_names(reader, 1)
    if kind == "alike":
        return kind, _read_names(reader, 2)
    if kind == "makes":
        return kind, _read_names(reader, 3)
    if kind == "counts":
        names = _read_names(reader, 2)
        return kind, names + _read_numbers(reader, 3)
    if kind == "dyes":
        return kind, _read_dyes(reader)
    return kind, _read_leads(reader)


def _read_sheet(text):
    """The pair of the entries and the verdicts of a text."""
    reader = Reader(text)
    entries, verdicts = [], []
    kind = reader.one_of(ENTRIES + VERDICTS)
    while kind in ENTRIES:
        entries.append(_read_entry(reader, kind[:-1]))
        reader.expect("\n")
        kind = reader.one_of(ENTRIES + VERDICTS)
    verdicts.append(_read_verdict(reader, kind[:-1]))
    while reader.next_sign() != "":
        reader.expect("\n")
        kind = reader.one_of(VERDICTS)
        verdicts.append(_read_verdict(reader, kind[:-1]))
    return tuple(entries), verdicts


def _need_entries(entries):
    """Looks whether the entries have unlike names and are nets and deeds."""
    met = {}
    for _, name, _ in entries:
        if name in met:
            raise BadName(name)
        met[name] = True
    for sort, _, thing in entries:
        if sort == "net":
            need_net(thing)
        elif sort == "deed":
            need_deed(thing)


def _named(entries, sort):
    """The things of the entries of a sort, by their names."""
    return {name: thing for each, name, thing in entries if each == sort}


def _thing(things, name):
    """The thing of a name."""
    if name not in things:
        raise BadName(name)
    return things[name]


def _has_counts(script, deeds, net, counts):
    """Whether a board of a net with the deeds of a script has these counts."""
    board = Board(net)
    for name in told_names(script):
        board.enter(deeds[name])
    return board.counts() == counts


def _script_holds(kind, told, things):
    """Whether a verdict on a script holds."""
    nets, deeds, scripts = things
    script = _thing(scripts, told[0])
    if kind == "alike":
        return told_alike(script, _thing(scripts, told[1]), deeds)
    if kind == "dyes":
        need_names(script, deeds)
        return told_dye(script, deeds, told[1]) == told[2]
    net = _thing(nets, told[1])
    if kind == "makes":
        other = _thing(nets, told[2])
        need_names(script, deeds)
        return are_alike(told_done(script, deeds, net), other)
    need_names(script, deeds)
    return _has_counts(script, deeds, net, told[2:])


def _holds(kind, told, things):
    """Whether a verdict holds; it may raise an error as well."""
    nets, deeds, _ = things
    if kind == "whole":
        return is_whole_rows(_thing(deeds, told[0]))
    if kind == "leads":
        net = _thing(nets, told[0])
        return word_step(net, need_flag(net, told[1]), told[2]) == told[3]
    return _script_holds(kind, told, things)


def _is_so(kind, told, things):
    """Whether a verdict is so."""
    try:
        so = _holds(kind, told, things)
    except NetError:
        return False
    return so


def sheet_entries(text):
    """The entries of the sheet: triples of a sort, a name and a thing."""
    entries, _ = _read_sheet(text)
    _need_entries(entries)
    return entries


def judged(text):
    """For each verdict of the sheet whether it is so."""
    entries, verdicts = _read_sheet(text)
    _need_entries(entries)
    things = (_named(entries, "net"), _named(entries, "deed"), _named(entries, "script"))
    return tuple([_is_so(kind, told, things) for kind, told in verdicts])
