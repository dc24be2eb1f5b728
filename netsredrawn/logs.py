"""Logs: boards told by the steps that were done on them."""

from netsredrawn.errors import BadScript, NetError, TooGreat
from netsredrawn.live import Board
from netsredrawn.reader import Reader
from netsredrawn.reading import read_deed, read_net, read_step
from netsredrawn.texts import deed_lines, net_lines, step_item

STEPS = ("enter", "late ", "strike ", "melt ", "swap ", "pin ", "unpin ")
MOST_SIGNS = 20000
MOST_WORD_SIGNS = 1000
MOST_CELLS = 61


def _deed_rows(deed):
    """The lines of a deed in a log."""
    return ["- " + line for line in deed_lines(deed)]


def _step_lines(step):
    """The lines of a step."""
    kind = step[0]
    if kind == "enter":
        return [kind] + _deed_rows(step[1])
    if kind == "pin":
        return [kind + " " + step[1] + " " + ".".join([str(each) for each in step[2]])]
    lines = [kind + " " + str(step[1])]
    if kind in ("late", "swap"):
        lines.extend(_deed_rows(step[2]))
    if kind == "swap":
        cells, words = step[3]
        lines.extend(["= " + step_item((cell, word)) for cell, word in zip(cells, words)])
    return lines


def log_text(board):
    """The log of the board."""
    lines = net_lines(board.first)
    for step, _, _ in board.past:
        lines.extend(_step_lines(step))
    if board.future:
        lines.append("undone")
    for step, _, _ in board.future[::-1]:
        lines.extend(_step_lines(step))
    text = "\n".join(lines)
    if len(text) > MOST_SIGNS:
        raise TooGreat(MOST_SIGNS)
    return text


def _read_renaming(reader, many):
    """Read the lines of so many cells of a renaming."""
    cells, words = [], []
    while len(cells) < many:
        reader.expect("\n= ")
        cell, word = read_step(reader, MOST_WORD_SIGNS)
        cells.append(cell)
        words.append(word)
    return tuple(cells), tuple(words)


def _read_pin(reader):
    """Read a name and an address."""
    name = reader.read_name()
    reader.expect(" ")
    address = [reader.read_number(3)]
    while len(address) < MOST_CELLS and reader.next_sign() == ".":
        reader.expect(".")
        address.append(reader.read_number(3))
    return "pin", name, tuple(address)


def _read_lines(reader):
    """Read the lines of a deed behind a line."""
    reader.expect("\n")
    return read_deed(reader, "- ")


def _read_step(reader, kind):
    """Read a step behind its first word."""
    if kind == "enter":
        return kind, _read_lines(reader)
    if kind == "pin":
        return _read_pin(reader)
    if kind == "unpin":
        return kind, reader.read_name()
    number = reader.read_number(2)
    if kind in ("strike", "melt"):
        return kind, number
    deed = _read_lines(reader)
    if kind == "late":
        return kind, number, deed
    return kind, number, deed, _read_renaming(reader, len(deed[0]))


def _read_steps(reader):
    """The pair of all steps and how many of them are not taken back."""
    steps = []
    kept = None
    kinds = STEPS + ("undone",)
    while reader.next_sign() != "":
        reader.expect("\n")
        kind = reader.one_of(kinds)
        if kind == "undone":
            kept = len(steps)
            kinds = STEPS
            reader.expect("\n")
            kind = reader.one_of(kinds)
        steps.append(_read_step(reader, kind.strip()))
    if kept is None:
        kept = len(steps)
    return steps, kept


def _do(board, step):
    """Do a step on a board."""
    kind = step[0]
    if kind == "enter":
        board.enter(step[1])
    elif kind == "late":
        board.late(step[1], step[2])
    elif kind == "strike":
        board.strike(step[1])
    elif kind == "melt":
        board.melt(step[1])
    elif kind == "swap":
        board.swap(step[1], step[2], step[3])
    elif kind == "pin":
        board.pin(step[1], step[2])
    else:
        board.unpin(step[1])


def read_log(text):
    """The board that the log tells."""
    reader = Reader(text)
    net = read_net(reader, "")
    steps, kept = _read_steps(reader)
    board = Board(net)
    for place, step in enumerate(steps):
        try:
            _do(board, step)
        except NetError:
            raise BadScript(place) from None
    if kept < len(steps):
        board.undo(times=len(steps) - kept)
    return board
