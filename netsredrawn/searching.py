"""The shortest courses that do what a deed does, and what courses over a book do."""

from netsredrawn.books import need_book
from netsredrawn.coursing import deed_steps, first_courses, need_few
from netsredrawn.deeds import need_deed
from netsredrawn.homes import whole_deed
from netsredrawn.least import least_rows
from netsredrawn.moving import short_deed
from netsredrawn.sequence import SAME, after_rows
from netsredrawn.values import need_number_in

MOST_CELLS = 48


def shortest_script(book, deed):
    """The course that does what the deed does and is ahead of all others, or None."""
    need_book(book)
    whole_deed(need_deed(deed))
    root, steps = deed_steps(book, deed)
    courses = first_courses(steps, root, list(range(len(book))))
    return courses.get(least_rows(SAME), None)


def _led_on(book, told, many):
    """The pairs of a number of the book and the least deed of a deed and then this one, of cells that divide many."""
    row = []
    for number, deed in enumerate(book):
        if many % (len(told[0]) * len(deed[0])) == 0:
            row.append((number, short_deed(least_rows(after_rows(told, deed)))))
    return row


def scripts_of_cells(book, many):
    """The least deed of each deed of so many cells that courses do, with the course that is ahead of all others."""
    need_book(book)
    need_number_in(many, 1, MOST_CELLS)
    first = least_rows(SAME)
    courses = {first: ()}
    order = [first]
    at = 0
    # Each deed is first met by its first course, for they are gone through in the order of their courses.
    while at < len(order):
        told = order[at]
        at += 1
        for number, deed in _led_on(book, told, many):
            if deed not in courses:
                courses[deed] = courses[told] + (number,)
                order.append(deed)
                need_few(order)
    return tuple(sorted([(deed, courses[deed]) for deed in courses if len(deed[0]) == many]))


def left_out(book):
    """For each deed of the book that a course without its number does, its number and the first such course."""
    need_book(book)
    told = []
    for number, deed in enumerate(book):
        root, steps = deed_steps(book, deed)
        others = [other for other in range(len(book)) if other != number]
        course = first_courses(steps, root, others).get(least_rows(SAME), None)
        if course is not None:
            told.append((number, course))
    return tuple(told)


def _number_tuples(many):
    """All ascending tuples of numbers below so many, those of fewer numbers first."""
    rows = [()]
    for number in range(many):
        rows = rows + [row + (number,) for row in rows]
    return [numbers for _, numbers in sorted([(len(row), row) for row in rows])]


def least_book(book):
    """The first of all tuples of numbers of deeds that alone do what each deed of the book does."""
    need_book(book)
    same = least_rows(SAME)
    graphs = [deed_steps(book, deed) for deed in book]
    for numbers in _number_tuples(len(book)):
        if not [root for root, steps in graphs if same not in first_courses(steps, root, numbers)]:
            return numbers
    return None
