"""Books of whole deeds, and courses over them."""

from netsredrawn.cellwebs import is_whole_rows
from netsredrawn.deeds import rule_broken
from netsredrawn.errors import BadScript
from netsredrawn.sequence import SAME, limited_after
from netsredrawn.values import is_number_in

MOST_DEEDS = 8
MOST_NUMBERS = 40


def need_book(book):
    """The book of whole deeds."""
    if not isinstance(book, tuple) or not 1 <= len(book) <= MOST_DEEDS:
        raise BadScript(None)
    for place, deed in enumerate(book):
        if rule_broken(deed) is not None or not is_whole_rows(deed):
            raise BadScript(place)
    return book


def _need_course(book, script):
    """The course over a book that was looked at."""
    if not isinstance(script, tuple) or len(script) > MOST_NUMBERS:
        raise BadScript(None)
    for place, number in enumerate(script):
        if not is_number_in(number, 0, len(book) - 1):
            raise BadScript(place)
    return script


def script_deed(book, script):
    """What the deeds of the course do, one after another."""
    need_book(book)
    told = SAME
    for number in _need_course(book, script):
        told = limited_after(told, book[number])
    return told
