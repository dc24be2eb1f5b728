"""Classes of words: what back(V) THEN U THEN V makes of a word U."""

from netsredrawn.errors import TooGreat
from netsredrawn.syllables import SIGNS, back_text, coded, joined_text, spelled_out, unwound
from netsredrawn.values import need_word

MOST_SIGNS = 9000


def need_codes(word):
    """The codes of the reduced word, which is not too long."""
    codes = coded(word)
    if len(spelled_out(codes)) > MOST_SIGNS:
        raise TooGreat(MOST_SIGNS)
    return codes


def least_of_ring(ring):
    """A pair (LEAST, P) for a ring as unwound gives it: it is P THEN LEAST THEN back(P).

    A least word begins with a 0 of the ring, for "01" is ahead of all else that a word of
    the class may begin with; without a 0 the ring itself is the least word.
    """
    text = spelled_out(ring)
    least, prefix = "", ""
    end = 0
    for code in ring:
        begin, end = end, end + len(SIGNS[code])
        if code not in (1, 3):
            continue
        rest = SIGNS[code ^ 1]
        word = "0" + text[end:] + text[:begin] + rest
        if least == "" or word < least:
            least, prefix = word, text[:begin] + rest
    if least == "":
        return text, ""
    return least, prefix


def class_pair(codes):
    """The pair (LEAST, V) of a reduced row of codes: V moves LEAST to it."""
    mover, ring = unwound(codes)
    tail = spelled_out(mover)
    if len(ring) < 2:
        return spelled_out(ring), tail
    least, prefix = least_of_ring(ring)
    return least, joined_text(back_text(prefix), tail)


def least_in_class(word):
    """The least conjugate of a word of any length."""
    return class_pair(coded(word))[0]


def least_conjugate(word):
    """The word of the class that is first in the one order."""
    return class_pair(need_codes(need_word(word)))[0]


def class_of(word):
    """The pair (LEAST, V): the least conjugate, and a word that moves it to the word."""
    return class_pair(need_codes(need_word(word)))


def conjugator(word, other_word):
    """A reduced word that moves the one word to the other one, or None."""
    need_word(word)
    need_word(other_word)
    least, mover = class_pair(need_codes(word))
    other_least, other_mover = class_pair(need_codes(other_word))
    if least != other_least:
        return None
    return joined_text(back_text(mover), other_mover)


def least_period(row):
    """The least length of a part that, again and again, makes the whole row."""
    for length in range(1, len(row) + 1):
        if len(row) % length == 0 and row[:length] * (len(row) // length) == row:
            return length
    return 0


def root(word):
    """The pair (ROOT, TIMES); for "" and mirrors the word itself and 1."""
    codes = need_codes(need_word(word))
    mover, ring = unwound(codes)
    if len(ring) < 2:
        return spelled_out(codes), 1
    length = least_period(ring)
    tail = spelled_out(mover)
    told = joined_text(joined_text(back_text(tail), spelled_out(ring[:length])), tail)
    return told, len(ring) // length


def commuting(word):
    """What commutes with the word: ("all", ()), ("few", WORDS) or ("powers", (ROOT,))."""
    codes = need_codes(need_word(word))
    mover, ring = unwound(codes)
    if not ring:
        return "all", ()
    if len(ring) > 1:
        return "powers", (root(word)[0],)
    told = spelled_out(codes)
    if SIGNS[ring[0]] == "1":
        return "few", ("", told)
    tail = spelled_out(mover)
    return "few", ("",) + tuple([back_text(tail) + sign + tail for sign in ("0", "2", "02")])
