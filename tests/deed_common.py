"""Deeds for tests: those of one cell and others by hand, and what is made of them."""

from common import random_word, rewritten


def one_cell(*words):
    return tuple(((0, word),) for word in words)


NAMED = {
    "same": one_cell("0", "1", "2"), "flip": one_cell("2", "1", "0"), "twist": one_cell("02", "1", "2"),
    "spin": one_cell("0", "1", "02"), "wheel": one_cell("2", "1", "02"), "unwheel": one_cell("02", "1", "0"),
    "half": (((1, ""), (0, "")), ((0, "1"), (1, "0")), ((0, "2"), (1, "2"))),
    "twin": (((0, "0"), (1, "0")), ((0, "1"), (1, "2")), ((1, ""), (0, ""))),
    "middle": (((0, "1"), (1, "1")), ((0, "0"), (1, "2")), ((1, ""), (0, ""))),
    "cut": (((0, "0"), (1, "1"), (2, "1")), ((1, ""), (0, ""), (2, "2")), ((0, "2"), (2, ""), (1, ""))),
}
# A part that no step leads out of, beside another one.
APART = (((0, "0"), (1, "101")), ((0, "1"), (1, "1")), ((0, "2"), (1, "121")))


# All cells are reached, but nothing gathers "0".
HOMELESS = (((1, ""), (0, "")), ((0, "1"), (1, "1")), ((0, "2"), (1, "2")))
# Two whole deeds with two renamings to themselves.
TWOFOLD = (((0, "1"), (3, ""), (2, "1"), (1, "")), ((1, ""), (0, ""), (3, "0"), (2, "0")),
           ((2, ""), (3, "02"), (0, ""), (1, "02")))
TWOFOLD_OF_SIX = (
    ((1, ""), (0, ""), (4, "2"), (5, ""), (2, "2"), (3, "")),
    ((2, ""), (3, ""), (0, ""), (1, ""), (5, "02"), (4, "02")),
    ((2, "2"), (4, ""), (0, "2"), (5, "1"), (1, ""), (3, "1")))


def walked_slowly(deed, cell, walk):
    gathered = ""
    for sign in walk:
        cell, word = deed["012".index(sign)][cell]
        gathered += word
    return cell, rewritten(gathered)


def after_slowly(first, second):
    """The deed that does the first one, then the second one."""
    many = len(second[0])
    rows = []
    for row in second:
        new = []
        for cell in range(len(first[0])):
            for there, word in row:
                end, gathered = walked_slowly(first, cell, word)
                new.append((end * many + there, gathered))
        rows.append(tuple(new))
    return tuple(rows)


def moved_slowly(deed, words):
    """The deed, moved by a word for each cell."""
    return tuple(tuple((there, rewritten(words[cell][::-1] + word + words[there]))
                       for cell, (there, word) in enumerate(row)) for row in deed)


def done_slowly(deed, net):
    """What the deed makes of a net, flag by flag."""
    many = len(deed[0])
    rows = []
    for row in deed:
        new = []
        for flag in range(len(net[0])):
            for there, word in row:
                end = flag
                for sign in word:
                    end = net[int(sign)][end]
                new.append(end * many + there)
        rows.append(tuple(new))
    return tuple(rows)


def is_deed_slowly(deed):
    return fault_slowly(deed) is None


def fault_slowly(deed):
    """The first rule that fails and its cell, for what keeps "form" but for long or unreduced words."""
    cells = range(len(deed[0]))
    if any(len(word) > 60 or word != rewritten(word) for row in deed for _, word in row):
        return "form", None
    for cell in cells:
        if any(row[row[cell][0]] != (cell, rewritten(row[cell][1][::-1])) for row in deed):
            return "back", cell
    for cell in cells:
        if any(row[cell] == (cell, "") for row in deed):
            return "still", cell
    for cell in cells:
        if walked_slowly(deed, cell, "02") != walked_slowly(deed, cell, "20"):
            return "square", cell
    for cell in cells:
        if walked_slowly(deed, cell, "02") == (cell, ""):
            return "apart", cell
    return None


def random_deed(rng, most=12):
    """A deed put together from the named ones, moved at random."""
    deed = NAMED[rng.choice(list(NAMED))]
    for _ in range(rng.randint(0, 2)):
        other = after_slowly(deed, NAMED[rng.choice(list(NAMED))])
        if len(other[0]) <= most:
            deed = other
    if rng.random() < 0.5:
        other = moved_slowly(deed, [rewritten(random_word(rng, 4)) for _ in deed[0]])
        if fault_slowly(other) is None:
            deed = other
    return deed


def winding_word(rng, most):
    """A reduced word of at most so many characters, about as long as may be."""
    word = ""
    while len(word) < most:
        word += rng.choice(("0", "2", "02")) + "1"
    return rewritten(word[:rng.randint(0, most)])


def loose_square(rng, cells):
    """The steps 0 and 2 of one, two or four cells that they join to a square, most of them ""."""
    steps = {}
    if len(cells) == 1:
        zero, two = rng.sample(("0", "2", "02"), 2)
        return {(0, cells[0]): (cells[0], zero), (2, cells[0]): (cells[0], two)}
    if len(cells) == 2:
        one, other = cells
        mirror = rng.choice(("0", "1", "2", "02"))
        zero, two = rng.choice(((True, False), (False, True), (True, True)))
        for here, there in ((one, other), (other, one)):
            steps[0, here] = (there, "") if zero else (here, mirror)
            steps[2, here] = (there, mirror if zero else "") if two else (here, mirror)
        return steps
    one, other, third, last = cells
    for change, pairs in ((0, ((one, other), (third, last))), (2, ((one, third), (other, last)))):
        for here, there in pairs:
            steps[change, here], steps[change, there] = (there, ""), (here, "")
    return steps


def patched_deed(rng, many, most):
    """A deed of so many cells, joined at random; squares and steps 1 are moved by words of most characters."""
    while True:
        cells = rng.sample(range(many), many)
        steps = {}
        while cells:
            size = rng.choice([size for size in (1, 2, 4, 4) if size <= len(cells)])
            steps.update(loose_square(rng, cells[:size]))
            cells = cells[size:]
        cells = rng.sample(range(many), many)
        while cells:
            size = rng.choice([size for size in (1, 2, 2, 2) if size <= len(cells)])
            word = rng.choice(("0", "1", "2", "02")) if size == 1 else ""
            for here, there in zip(cells[:size], reversed(cells[:size])):
                steps[1, here] = (there, word)
            cells = cells[size:]
        rows = [tuple(steps[change, cell] for cell in range(many)) for change in range(3)]
        squares, ones = ([winding_word(rng, most) for _ in range(many)] for _ in range(2))
        moved = moved_slowly(rows, squares)
        deed = (moved[0], moved_slowly(rows, ones)[1], moved[2])
        if fault_slowly(deed) is None:
            return deed


def few_gathered(deed, cell, most):
    """The words of at most so many characters that closed walks gather, on the way never more than that."""
    met = {(cell, ""): ""}
    waiting = [(cell, "")]
    for here, gathered in waiting:
        for change in range(3):
            there, word = deed[change][here]
            key = (there, rewritten(gathered + word))
            if len(key[1]) <= most and key not in met:
                met[key] = met[here, gathered] + str(change)
                waiting.append(key)
    return {word: walk for (there, word), walk in met.items() if there == cell}
