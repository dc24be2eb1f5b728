"""Rows of powers: told without writing out what they make.

A power is back(V), then a ring so many times, then V. A RUN is a triple (UNIT, START, MANY):
MANY syllables of the codes in UNIT, again and again, from the place START on. A row of
powers is kept as a reduced row of runs.
"""

from netsredrawn.errors import BadNumber, BadScript, TooGreat
from netsredrawn.syllables import ONE, SIGNS, coded, spelled_out, unwound
from netsredrawn.values import is_number, is_number_in, is_word, need_word

MOST_SIGNS = 20000


def _is_power(value):
    """Whether a value is a power."""
    if not isinstance(value, tuple) or len(value) != 2:
        return False
    word, times = value
    return is_word(word) and len(word) <= 2000 and is_number(times)


def need_row(row):
    """The row of powers."""
    if not isinstance(row, tuple) or len(row) > 40:
        raise BadScript(None)
    for place, power in enumerate(row):
        if not _is_power(power):
            raise BadScript(place)
    return row


def _power_runs(word, times):
    """The runs of one power, reduced."""
    mover, ring = unwound(coded(word))
    many = abs(times)
    if len(ring) == 1:
        many = many % 2
    if not ring or many == 0:
        return []
    if times < 0:
        ring = ring[::-1]
    runs = [(mover[::-1], 0, len(mover)), (ring, 0, len(ring) * many), (mover, 0, len(mover))]
    return [run for run in runs if run[2] > 0]


def _shared(last, run):
    """How many syllables at the end of one run are undone by those at the beginning of another.

    Where two rows that come again agree for as long as both units together, they agree on.
    """
    unit, start, many = last
    other_unit, other_start, other_many = run
    most = min(many, other_many)
    looked = min(most, len(unit) + len(other_unit))
    for at in range(looked):
        code = unit[(start + many - 1 - at) % len(unit)]
        if code != other_unit[(other_start + at) % len(other_unit)]:
            return at
    return most


def _meet_runs(runs, last, run):
    """Put two runs that undo nothing of each other behind a reduced row of runs."""
    unit, start, many = last
    other_unit, other_start, other_many = run
    tail = unit[(start + many - 1) % len(unit)]
    head = other_unit[other_start % len(other_unit)]
    if tail == ONE or head == ONE:
        row = [last, run]
    else:
        row = [(unit, start, many - 1), ([tail ^ head], 0, 1), (other_unit, other_start + 1, other_many - 1)]
    for each in row:
        if each[2] > 0:
            runs.append(each)


def _put_run(runs, run):
    """Lead a reduced row of runs on by one more run."""
    unit, start, many = run
    while runs and many > 0:
        last = runs.pop()
        same = _shared(last, (unit, start, many))
        start, many = (start + same) % len(unit), many - same
        left = (last[0], last[1], last[2] - same)
        if left[2] > 0 and many > 0:
            _meet_runs(runs, left, (unit, start, many))
            return
        if left[2] > 0:
            runs.append(left)
    if many > 0:
        runs.append((unit, start, many))


def _runs_of(powers):
    """The reduced row of runs of powers, one after another."""
    runs = []
    for word, times in powers:
        for run in _power_runs(word, times):
            _put_run(runs, run)
    return runs


def _run_signs(run):
    """How many characters a run has."""
    unit, start, many = run
    whole = sum([len(SIGNS[code]) for code in unit])
    part = [unit[(start + at) % len(unit)] for at in range(many % len(unit))]
    return many // len(unit) * whole + sum([len(SIGNS[code]) for code in part])


def _unit_text(run):
    """The characters of a run, until they come again."""
    unit, start, _ = run
    turn = start % len(unit)
    return spelled_out(unit[turn:] + unit[:turn])


def _written_runs(runs):
    """The word of a reduced row of runs."""
    if sum([_run_signs(run) for run in runs]) > MOST_SIGNS:
        raise TooGreat(MOST_SIGNS)
    parts = []
    for run in runs:
        text = _unit_text(run)
        many = _run_signs(run)
        parts.append((text * (many // len(text) + 1))[:many])
    return "".join(parts)


def row_length(row):
    """How many characters the reduced word of the row has."""
    return sum([_run_signs(run) for run in _runs_of(need_row(row))])


def row_character(row, place):
    """The character of the reduced word of the row at a place."""
    runs = _runs_of(need_row(row))
    if not is_number_in(place, 0, sum([_run_signs(run) for run in runs]) - 1):
        raise BadNumber(place)
    left = place
    for run in runs:
        many = _run_signs(run)
        if left < many:
            text = _unit_text(run)
            return text[left % len(text)]
        left = left - many
    return None


def row_word(row):
    """The reduced word of the row."""
    return _written_runs(_runs_of(need_row(row)))


def are_same_rows(row, other_row):
    """Whether the reduced words of two rows are the same."""
    need_row(row)
    need_row(other_row)
    undone = [(word, -times) for word, times in reversed(other_row)]
    return not _runs_of(list(row) + undone)


def done_times(word, times):
    """The reduced word of a word of any length, done so many times."""
    need_word(word)
    if not is_number(times):
        raise BadNumber(times)
    return _written_runs(_runs_of([(word, times)]))
