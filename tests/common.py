"""What several tests use: small nets, random nets and words, values of other kinds."""

import itertools
import random


class Strange:
    """A value of no kind that the package knows."""


STRANGE = Strange()
# Values that are neither words nor integers nor nets nor tables.
OTHERS = [None, True, False, [], {}, b"0", STRANGE, ["0"], {"0": "1"}, ((),), [()], -1.5]
NO_WORDS = [None, True, False, 0, 1, 12, [], (), {}, b"012", STRANGE, ["0", "1"], ("0",)]
NO_INTEGERS = [None, True, False, "", "1", [], (), (1,), [1], {}, b"1", STRANGE]


def squares(many):
    """The changes 0 and 2 of nets whose edges are numbered four by four."""
    return tuple(flag ^ 1 for flag in range(many)), tuple(flag ^ 2 for flag in range(many))


def matchings(items):
    """All ways of putting items into pairs."""
    if not items:
        yield []
        return
    first = items[0]
    for at in range(1, len(items)):
        rest = items[1:at] + items[at + 1:]
        for pairs in matchings(rest):
            yield [(first, items[at])] + pairs


def every_net(many):
    """All nets of many flags with the squares of squares(many)."""
    zero, two = squares(many)
    for pairs in matchings(list(range(many))):
        one = [0] * many
        for low, high in pairs:
            one[low], one[high] = high, low
        yield zero, tuple(one), two


def random_net(rng, many):
    """A net of many flags, its flags in any order."""
    names = list(range(many))
    rng.shuffle(names)
    zero, two = [0] * many, [0] * many
    for at in range(0, many, 4):
        a, b, c, d = names[at:at + 4]
        for low, high in ((a, b), (c, d)):
            zero[low], zero[high] = high, low
        for low, high in ((a, c), (b, d)):
            two[low], two[high] = high, low
    rng.shuffle(names)
    one = [0] * many
    for at in range(0, many, 2):
        low, high = names[at:at + 2]
        one[low], one[high] = high, low
    return tuple(zero), tuple(one), tuple(two)


def is_joined_slowly(net):
    """Whether all flags are reached from flag 0."""
    met = {0}
    rest = [0]
    while rest:
        flag = rest.pop()
        for row in net:
            if row[flag] not in met:
                met.add(row[flag])
                rest.append(row[flag])
    return len(met) == len(net[0])


def random_joined_net(rng, many):
    """A joined net of many flags."""
    while True:
        net = random_net(rng, many)
        if is_joined_slowly(net):
            return net


def random_word(rng, most):
    """A word, reduced or not, of at most so many characters."""
    return "".join(rng.choice("012") for _ in range(rng.randint(0, most)))


def rewritten(word):
    """The reduced word, by taking out what may not stand in it, again and again."""
    while True:
        other = word.replace("20", "02").replace("00", "").replace("11", "").replace("22", "")
        if other == word:
            return word
        word = other


def reduced_words(length):
    """All reduced words of so many characters, ascending."""
    words = ("".join(signs) for signs in itertools.product("012", repeat=length))
    return [word for word in words if not any(pair in word for pair in ("00", "11", "22", "20"))]


def reduced_words_up_to(length):
    """All reduced words of at most so many characters, in the one order."""
    return [word for many in range(length + 1) for word in reduced_words(many)]


def led(net, flag, word):
    """Where a word leads, character by character."""
    for sign in word:
        flag = net["012".index(sign)][flag]
    return flag


def small_nets(seed=7, many=12):
    """Some nets: all of 4 and 8 flags, and random ones."""
    rng = random.Random(seed)
    nets = list(every_net(4)) + list(every_net(8))
    return nets + [random_net(rng, 4 * rng.randint(3, 10)) for _ in range(many)]
