"""The one order of reduced words: numbers of words, counts of words and of classes."""

from math import gcd

from netsredrawn.errors import BadNumber, TooGreat
from netsredrawn.syllables import reduced_text
from netsredrawn.values import is_number, need_number_in, need_word

MOST_SIGNS = 4000
MOST_TOLD = 20000
# What may stand behind each character of a reduced word.
BEHIND = {"": "012", "0": "12", "1": "02", "2": "1"}


def _tails(many):
    """The row 1, 1, 2, 3, 5 .. up to the place many + 1.

    A reduced word with N more characters to come goes on in as many ways as stand at the
    place N behind a 2, and at the place N + 1 behind a 0 or a 1.
    """
    tails = [1, 1]
    while len(tails) < many + 2:
        tails.append(tails[-1] + tails[-2])
    return tails


def _ways_on(tails, sign, many):
    """In how many ways a reduced word goes on behind a character."""
    if sign == "2":
        return tails[many]
    return tails[many + 1]


def _words_with(tails, length):
    """How many reduced words have so many characters."""
    if length == 0:
        return 1
    return sum([_ways_on(tails, sign, length - 1) for sign in "012"])


def number_of(word):
    """The number of the reduced word."""
    text = reduced_text(need_word(word))
    if len(text) > MOST_SIGNS:
        raise TooGreat(MOST_SIGNS)
    tails = _tails(len(text))
    number = sum([_words_with(tails, length) for length in range(len(text))])
    ahead = ""
    for place, sign in enumerate(text):
        for other in BEHIND[ahead]:
            if other < sign:
                number += _ways_on(tails, other, len(text) - place - 1)
        ahead = sign
    return number


def _sign_at(tails, ahead, number, many):
    """The pair of the next character, and the number among the words that go on with it."""
    for sign in BEHIND[ahead]:
        ways = _ways_on(tails, sign, many)
        if number < ways:
            return sign, number
        number = number - ways
    return None


def word_numbered(number):
    """The reduced word with this number."""
    if not is_number(number) or number < 0:
        raise BadNumber(number)
    tails = [1, 1]
    length, left = 0, number
    while left >= _words_with(tails, length):
        left = left - _words_with(tails, length)
        length += 1
        if length > MOST_TOLD:
            raise TooGreat(MOST_TOLD)
        tails.append(tails[-1] + tails[-2])
    signs = []
    ahead = ""
    for many in range(length - 1, -1, -1):
        ahead, left = _sign_at(tails, ahead, left, many)
        signs.append(ahead)
    return "".join(signs)


def words_of(length):
    """How many reduced words have so many characters."""
    need_number_in(length, 0, MOST_SIGNS)
    return _words_with(_tails(length), length)


def _rings_closed(length):
    """How many rows of characters, read around, hold none of "00", "11", "22", "20"."""
    older, newer = 2, 1
    for _ in range(length):
        older, newer = newer, older + newer
    if length % 2 == 1:
        return older - 1
    return older + 1


def classes_of(length):
    """How many classes have a least conjugate of so many characters."""
    need_number_in(length, 0, MOST_SIGNS)
    if length < 3:
        return (1, 3, 3)[length]
    # Rings as one likes to turn them: the mean, over all turns, of the rows that a turn keeps.
    counts = {}
    for turn in range(length):
        kept = gcd(turn, length)
        counts[kept] = counts.get(kept, 0) + 1
    return sum([counts[kept] * _rings_closed(kept) for kept in counts]) // length


def _least_tail(ahead, many):
    """The least so many characters behind a word that ends with a character."""
    if ahead in ("", "1"):
        return ("01" * many)[:many]
    return ("10" * many)[:many]


def _next_word(word):
    """The next reduced word in the one order."""
    for place in range(len(word) - 1, -1, -1):
        for sign in BEHIND[word[:place][-1:]]:
            if sign > word[place]:
                return word[:place] + sign + _least_tail(sign, len(word) - place - 1)
    return _least_tail("", len(word) + 1)


def next_words(word, many):
    """The next so many reduced words behind the reduced word."""
    need_word(word)
    need_number_in(many, 0, 200)
    text = reduced_text(word)
    if len(text) > MOST_SIGNS:
        raise TooGreat(MOST_SIGNS)
    told = []
    while len(told) < many:
        text = _next_word(text)
        if len(text) > MOST_SIGNS:
            raise TooGreat(MOST_SIGNS)
        told.append(text)
    return tuple(told)
