"""Deeds for tests: those of one cell and others by hand, and what is made of them."""

from common import random_word, rewritten


def one_cell(*words):
    return tuple(((0, word),) for word in words)


NAMED = {
    "same": one_cell("0", "1", "2"), "flip": one_cell("2", "1", "0"), "twist": one_cell("02", "1", "2"),
    "spin": one_cell("0", "1", "02"), "wheel": one_cell("2", "1", "02"), "unwheel": one_cell("02", "1", "0"),
    "half": (((1, ""), (0, "")), ((0, "1"), (1, "0")), ((0, "2"), (1, "2"))),
    "twin": (((0, "0"), (1, "0")), ((0, "1"), (1, "2")), ((1, ""), (0, ""))),
    "middle": (((0, "1"), (1, "1")), ((0, "0"), (1, "2")), ((1, ""), (0, ""))),
    "cut": (((0, "0"), (1, "1"), (2, "1")), ((1, ""), (0, ""), (2, "2")), ((0, "2"), (2, ""), (1, ""))),
}
# A part that no step leads out of, beside another one.
APART = (((0, "0"), (1, "101")), ((0, "1"), (1, "1")), ((0, "2"), (1, "121")))


def walked_slowly(deed, cell, walk):
    gathered = ""
    for sign in walk:
        cell, word = deed["012".index(sign)][cell]
        gathered += word
    return cell, rewritten(gathered)


def after_slowly(first, second):
    """The deed that does the first one, then the second one."""
    many = len(second[0])
    rows = []
    for row in second:
        new = []
        for cell in range(len(first[0])):
            for there, word in row:
                end, gathered = walked_slowly(first, cell, word)
                new.append((end * many + there, gathered))
        rows.append(tuple(new))
    return tuple(rows)


def moved_slowly(deed, words):
    """The deed, moved by a word for each cell."""
    return tuple(tuple((there, rewritten(words[cell][::-1] + word + words[there]))
                       for cell, (there, word) in enumerate(row)) for row in deed)


def done_slowly(deed, net):
    """What the deed makes of a net, flag by flag."""
    many = len(deed[0])
    rows = []
    for row in deed:
        new = []
        for flag in range(len(net[0])):
            for there, word in row:
                end = flag
                for sign in word:
                    end = net[int(sign)][end]
                new.append(end * many + there)
        rows.append(tuple(new))
    return tuple(rows)


def is_deed_slowly(deed):
    return fault_slowly(deed) is None


def fault_slowly(deed):
    """The first rule that fails and its cell, for what keeps "form" but for long or unreduced words."""
    cells = range(len(deed[0]))
    if any(len(word) > 60 or word != rewritten(word) for row in deed for _, word in row):
        return "form", None
    for cell in cells:
        if any(row[row[cell][0]] != (cell, rewritten(row[cell][1][::-1])) for row in deed):
            return "back", cell
    for cell in cells:
        if any(row[cell] == (cell, "") for row in deed):
            return "still", cell
    for cell in cells:
        if walked_slowly(deed, cell, "02") != walked_slowly(deed, cell, "20"):
            return "square", cell
    for cell in cells:
        if walked_slowly(deed, cell, "02") == (cell, ""):
            return "apart", cell
    return None


def random_deed(rng, most=12):
    """A deed put together from the named ones, moved at random."""
    deed = NAMED[rng.choice(list(NAMED))]
    for _ in range(rng.randint(0, 2)):
        other = after_slowly(deed, NAMED[rng.choice(list(NAMED))])
        if len(other[0]) <= most:
            deed = other
    if rng.random() < 0.5:
        other = moved_slowly(deed, [rewritten(random_word(rng, 4)) for _ in deed[0]])
        if fault_slowly(other) is None:
            deed = other
    return deed
