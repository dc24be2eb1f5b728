"""What is read of nets, deeds and scripts, by its form alone. Some signs may stand ahead of each line."""

MOST_FLAGS = 960
LEAST_FLAGS = 4
MOST_LINES = 48
MOST_SIGNS = 60
MOST_ITEMS = 60
MOST_ROWS = 10
MOST_TIMES = 2


def _first_row(reader):
    """Read a line of integers, as many as a net may have flags."""
    row = [reader.read_number(3)]
    while len(row) < LEAST_FLAGS or (len(row) < MOST_FLAGS and reader.next_sign() == " "):
        reader.expect(" ")
        row.append(reader.read_number(3))
    return tuple(row)


def _further_row(reader, many):
    """Read a line of so many integers."""
    row = [reader.read_number(3)]
    while len(row) < many:
        reader.expect(" ")
        row.append(reader.read_number(3))
    return tuple(row)


def read_net(reader, ahead):
    """Read the lines of a net."""
    reader.expect(ahead)
    rows = [_first_row(reader)]
    while len(rows) < 3:
        reader.expect("\n" + ahead)
        rows.append(_further_row(reader, len(rows[0])))
    return tuple(rows)


def read_step(reader, most):
    """Read a cell and a word of at most so many characters."""
    cell = reader.read_number(2)
    reader.expect(":")
    return cell, reader.read_word(most)


def _read_cell(reader):
    """Read the line of a cell of a deed."""
    steps = [read_step(reader, MOST_SIGNS)]
    while len(steps) < 3:
        reader.expect(" ")
        steps.append(read_step(reader, MOST_SIGNS))
    return steps


def read_deed(reader, ahead):
    """Read the lines of a deed, as many as there are."""
    reader.expect(ahead)
    lines = [_read_cell(reader)]
    while len(lines) < MOST_LINES and reader.goes_on_with("\n" + ahead[:1]):
        reader.expect("\n" + ahead)
        lines.append(_read_cell(reader))
    return tuple([tuple([line[change] for line in lines]) for change in range(3)])


def _read_row(reader, rows):
    """Read a row of scripts, if so many stand around it."""
    if rows == MOST_ROWS:
        reader.refuse()
    reader.expect("(")
    scripts = []
    if reader.next_sign() != ")":
        scripts.append(_read_in_rows(reader, rows + 1))
        while len(scripts) < MOST_ITEMS and reader.next_sign() == " ":
            reader.expect(" ")
            scripts.append(_read_in_rows(reader, rows + 1))
    reader.expect(")")
    return "row", tuple(scripts)


def _read_in_rows(reader, rows):
    """Read a script, if so many rows stand around it."""
    if reader.next_sign() == "(":
        script = _read_row(reader, rows)
    else:
        script = reader.read_name()
    times = 0
    while times < MOST_TIMES and reader.next_sign() == "*":
        reader.expect("*")
        script = ("times", script, reader.read_number(30))
        times = times + 1
    return script


def read_script(reader):
    """Read a script."""
    return _read_in_rows(reader, 0)
