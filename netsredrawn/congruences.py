"""Classes of flags that the changes keep, unchecked."""


def numbered_classes(names):
    """The classes of flags with the same names, numbered as they are first met."""
    numbers = {}
    for name in names:
        if name not in numbers:
            numbers[name] = len(numbers)
    return tuple([numbers[name] for name in names])


def class_steps(net, marks):
    """The changes as they lead from class to class, if they keep the classes."""
    rows = [[0] * (max(marks) + 1) for _ in range(3)]
    for change in range(3):
        for flag, mark in enumerate(marks):
            rows[change][mark] = marks[net[change][flag]]
    return tuple([tuple(row) for row in rows])


def unkept_flag(net, marks):
    """The least flag whose change leads elsewhere than from the first flag of its class, or None."""
    first = {}
    for flag, mark in enumerate(marks):
        if mark not in first:
            first[mark] = flag
        for row in net:
            if marks[row[flag]] != marks[row[first[mark]]]:
                return flag
    return None


def stuck_flag(net, marks):
    """The least flag that a change, or change 0 then 2, leads to one of its class, or None."""
    zero, one, two = net
    for flag, mark in enumerate(marks):
        for there in (zero[flag], one[flag], two[flag], two[zero[flag]]):
            if marks[there] == mark:
                return flag
    return None


def _top(above, name):
    """The name that stands for a name, and for all between them from now on."""
    top = name
    while above[top] != top:
        top = above[top]
    while name != top:
        between = above[name]
        above[name] = top
        name = between
    return top


def merged_classes(net, marks, flag, other):
    """The finest kept classes that hold together what the kept classes do, and two flags."""
    rows = class_steps(net, marks)
    above = list(range(len(rows[0])))
    waiting = [(marks[flag], marks[other])]
    while waiting:
        one, two = waiting.pop()
        low, high = _top(above, one), _top(above, two)
        if low != high:
            above[max(low, high)] = min(low, high)
            for row in rows:
                waiting.append((row[low], row[high]))
    return numbered_classes([_top(above, mark) for mark in marks])


def _first_flags(marks):
    """The first flag of each class but that of flag 0."""
    return [flag for flag, mark in enumerate(marks) if mark > 0 and marks.index(mark) == flag]


def folding_classes(net, most):
    """The ways of folding a joined net; it ends where there are more than a limit.

    What holds more together than classes with a stuck flag has one, too; and each way of
    folding is made of the finest kept classes that hold flag 0 and another one together.
    """
    each = tuple(range(len(net[0])))
    lone = [flag for flag in each if stuck_flag(net, merged_classes(net, each, 0, flag)) is None]
    tried = {flag: True for flag in lone}
    found = {each: True}
    rows = [each]
    at = 0
    while at < len(rows) and len(rows) <= most:
        marks = rows[at]
        at += 1
        for flag in _first_flags(marks):
            if flag not in tried:
                continue
            more = merged_classes(net, marks, 0, flag)
            if more not in found:
                found[more] = True
                if stuck_flag(net, more) is None:
                    rows.append(more)
    return sorted(rows)
