"""Origins: all deeds, or nets, from which courses over a book lead to one."""

from netsredrawn.books import need_book
from netsredrawn.coursing import deed_steps, first_courses, net_steps_back
from netsredrawn.deeds import need_deed
from netsredrawn.homes import whole_deed
from netsredrawn.nets import joined_net, need_net


def _told(book, steps, root):
    """The origins with the first course of each."""
    courses = first_courses(steps, root, list(range(len(book))))
    return sorted([(origin, courses[origin]) for origin in courses])


def origins(book, deed):
    """The least deed of each origin of the deed, with the course from it that is ahead of all others."""
    need_book(book)
    whole_deed(need_deed(deed))
    root, steps = deed_steps(book, deed)
    return tuple(_told(book, steps, root))


def net_origins(book, net):
    """The least form of each origin of the net, with the course from it that is ahead of all others."""
    need_book(book)
    joined_net(need_net(net))
    root, steps = net_steps_back(book, net)
    return tuple(_told(book, steps, root))


def net_roots(book, net):
    """Those origins of the net that have no source with fewer flags by a deed of the book."""
    need_book(book)
    joined_net(need_net(net))
    root, steps = net_steps_back(book, net)
    roots = []
    for form, course in _told(book, steps, root):
        if not [source for _, source in steps[form] if len(source[0]) < len(form[0])]:
            roots.append((form, course))
    return tuple(roots)
