"""All whole plain deeds of one or two cells."""

from netsredrawn.cellwebs import is_whole_rows
from netsredrawn.deeds import rule_broken
from netsredrawn.errors import BadNumber
from netsredrawn.least import least_rows
from netsredrawn.values import is_number

PLAIN_WORDS = ("", "0", "1", "2")
MIRRORS = ("0", "1", "2")


def _plain_rows(many):
    """All rows of steps of one change for one or two cells that keep "back" and "still"."""
    if many == 1:
        return [((0, word),) for word in MIRRORS]
    rows = [((1, word), (0, word)) for word in PLAIN_WORDS]
    return rows + [((0, word), (1, other)) for word in MIRRORS for other in MIRRORS]


def plain_deeds(many):
    """The least deeds of all whole plain deeds with so many cells, ascending."""
    if not is_number(many) or many not in (1, 2):
        raise BadNumber(many)
    rows = _plain_rows(many)
    found = {}
    for zero in rows:
        for one in rows:
            for two in rows:
                deed = (zero, one, two)
                if rule_broken(deed) is None and is_whole_rows(deed):
                    found[least_rows(deed)] = True
    return tuple(sorted(found))
