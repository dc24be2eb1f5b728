"""All that courses over a book lead to a deed or a net, unchecked: who leads to whom, and the first courses."""

from netsredrawn.errors import TooGreat
from netsredrawn.least import least_rows
from netsredrawn.moving import short_deed
from netsredrawn.pastnets import past_nets
from netsredrawn.pasts import past_deeds
from netsredrawn.shapes import least_net

MOST_ORIGINS = 200


def _deeds_ahead(deed, told):
    """The least deeds from which a deed leads to a told one."""
    return [short_deed(each) for each in past_deeds(deed, told)]


def _nets_ahead(deed, told):
    """The least forms of the nets that a deed leads to a told one."""
    return [form for form, _ in past_nets(deed, told)]


def need_few(found):
    """Looks whether few enough are found."""
    if len(found) > MOST_ORIGINS:
        raise TooGreat(MOST_ORIGINS)


def _origin_steps(book, root, ahead):
    """For each origin the pairs of a number of the book and an origin from which its deed leads there."""
    steps = {}
    order = [root]
    met = {root: True}
    at = 0
    while at < len(order):
        told = order[at]
        at += 1
        row = []
        for number, deed in enumerate(book):
            for source in ahead(deed, told):
                row.append((number, source))
                if source not in met:
                    met[source] = True
                    order.append(source)
                    need_few(order)
        steps[told] = row
    return steps


def deed_steps(book, deed):
    """The pair of the least deed of a whole deed and, for each of its origins, what leads there."""
    root = short_deed(least_rows(deed))
    return root, _origin_steps(book, root, _deeds_ahead)


def net_steps_back(book, net):
    """The pair of the least form of a joined net and, for each of its origins, what leads there."""
    root = least_net(net)
    return root, _origin_steps(book, root, _nets_ahead)


def first_courses(steps, root, numbers):
    """For each origin, by deeds of these numbers alone, the first course that leads to the root."""
    courses = {root: ()}
    level = [root]
    while level:
        found = {}
        for told in level:
            for number, source in steps[told]:
                if number not in numbers or source in courses:
                    continue
                course = (number,) + courses[told]
                if source not in found or course < found[source]:
                    found[source] = course
        for source in found:
            courses[source] = found[source]
        level = list(found)
    return courses
