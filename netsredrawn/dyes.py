"""Signs, the dyeings of nets for them, and papers that tell why there are some or none."""

from netsredrawn.errors import BadSign
from netsredrawn.nets import need_net
from netsredrawn.steps import all_parts, word_step
from netsredrawn.syllables import reduced_text
from netsredrawn.values import is_number_in, is_word, need_word, need_words

MOST_SIGNS = 2000


def counted(sign, change):
    """1 if a sign counts a change, otherwise 0."""
    return sign >> change & 1


def word_count(word, sign):
    """The count of a word for a sign."""
    told = 0
    for change in range(3):
        told = told + counted(sign, change) * word.count(str(change))
    return told & 1


def is_sign(value):
    """Whether a value is a sign."""
    return is_number_in(value, 0, 7)


def need_sign(sign):
    """The sign."""
    if not is_sign(sign):
        raise BadSign(sign)
    return sign


def count_of(word, sign):
    """The count of the word for the sign."""
    need_word(word)
    return word_count(word, need_sign(sign))


def together(sign, other_sign):
    """The sign that counts the changes which just one of the two counts."""
    need_sign(sign)
    return sign ^ need_sign(other_sign)


def _dye_part(net, sign, colors, flag):
    """Dye the part of a flag in a list of colors, with 0 at this flag. Whether all changes are kept."""
    colors[flag] = 0
    order = [flag]
    at = 0
    while at < len(order):
        here = order[at]
        at += 1
        for change in range(3):
            there = net[change][here]
            color = colors[here] ^ counted(sign, change)
            if colors[there] is None:
                colors[there] = color
                order.append(there)
            elif colors[there] != color:
                return False
    return True


def first_dyeing(net, sign):
    """The first dyeing of a net that was looked at, or None."""
    colors = [None] * len(net[0])
    for flag in range(len(colors)):
        if colors[flag] is None and not _dye_part(net, sign, colors, flag):
            return None
    return tuple(colors)


def dyeing(net, sign):
    """The first dyeing of the net for the sign, or None."""
    need_net(net)
    return first_dyeing(net, need_sign(sign))


def net_signs(net):
    """The signs for which a net that was looked at has a dyeing, ascending."""
    return tuple([sign for sign in range(8) if first_dyeing(net, sign) is not None])


def signs_of(net):
    """The signs for which the net has a dyeing, ascending."""
    return net_signs(need_net(net))


def _odd_word(net, sign, flag):
    """A shortest word with the count 1 that leads a flag to itself, or None."""
    words = {(flag, 0): ""}
    order = [(flag, 0)]
    at = 0
    while at < len(order) and (flag, 1) not in words:
        here, bit = order[at]
        word = words[order[at]]
        at += 1
        for change in range(3):
            key = (net[change][here], bit ^ counted(sign, change))
            if key not in words:
                words[key] = word + str(change)
                order.append(key)
    return words.get((flag, 1), None)


def dyeing_paper(net, sign):
    """A right dye paper on the net and the sign."""
    need_net(net)
    need_sign(sign)
    told = first_dyeing(net, sign)
    if told is not None:
        return "dyeing", told
    for part in all_parts(net):
        word = _odd_word(net, sign, part[0])
        if word is not None:
            return "odd", part[0], reduced_text(word)
    return None


def _is_dyeing(net, sign, value):
    """Whether a value is a dyeing of a net for a sign."""
    if not isinstance(value, tuple) or len(value) != len(net[0]):
        return False
    for color in value:
        if not is_number_in(color, 0, 1):
            return False
    for change, row in enumerate(net):
        for flag, there in enumerate(row):
            if value[flag] ^ value[there] != counted(sign, change):
                return False
    return True


def is_dyeing_paper(net, sign, paper):
    """Whether a value is a right dye paper on the net and the sign."""
    need_net(net)
    need_sign(sign)
    if not isinstance(paper, tuple) or not paper or not isinstance(paper[0], str):
        return False
    if paper[0] == "dyeing":
        return len(paper) == 2 and _is_dyeing(net, sign, paper[1])
    if paper[0] != "odd" or len(paper) != 3:
        return False
    _, flag, word = paper
    if not is_number_in(flag, 0, len(net[0]) - 1) or not is_word(word) or len(word) > MOST_SIGNS:
        return False
    return word_count(word, sign) == 1 and word_step(net, flag, word) == flag


def common_signs(wordlist):
    """The signs for which all words have the count 0, ascending."""
    need_words(wordlist)
    told = []
    for sign in range(8):
        if not [word for word in wordlist if word_count(word, sign) == 1]:
            told.append(sign)
    return tuple(told)
