"""The six turns: words for the changes, put in their places."""

from netsredrawn.classes import least_in_class
from netsredrawn.errors import BadScript, TooGreat
from netsredrawn.syllables import (
    ONE, back_text, coded, is_mirror_row, joined_text, reduced_text, spelled_out)
from netsredrawn.values import is_word, need_number_in, need_word

TURNS = (
    ("0", "1", "2"),
    ("2", "1", "0"),
    ("02", "1", "2"),
    ("0", "1", "02"),
    ("2", "1", "02"),
    ("02", "1", "0"),
)
MOST_TOLD = 20000
MOST_CLASS_SIGNS = 9000


def _turned_text(word, turn):
    """The turned word, unchecked."""
    return reduced_text("".join([TURNS[turn][int(sign)] for sign in word]))


def _all_turned(word, most):
    """The six turned words, none of them longer than a limit."""
    told = [_turned_text(word, turn) for turn in range(6)]
    if max([len(text) for text in told]) > most:
        raise TooGreat(most)
    return told


def _turn_of_words(words):
    """The turn that has these three words."""
    for turn in range(6):
        if TURNS[turn] == words:
            return turn
    return None


def turned(word, turn):
    """The word turned."""
    need_word(word)
    need_number_in(turn, 0, 5)
    told = _turned_text(word, turn)
    if len(told) > MOST_TOLD:
        raise TooGreat(MOST_TOLD)
    return told


def turns_of(word):
    """The six turned words."""
    return tuple(_all_turned(need_word(word), MOST_TOLD))


def turn_then(turn, other_turn):
    """The turn that turns each word as the one and then the other one do."""
    need_number_in(turn, 0, 5)
    need_number_in(other_turn, 0, 5)
    return _turn_of_words(tuple([_turned_text(word, other_turn) for word in TURNS[turn]]))


def turn_back(turn):
    """The turn that undoes one."""
    need_number_in(turn, 0, 5)
    for other in range(6):
        if turn_then(turn, other) == 0:
            return other
    return None


def turns_kept(word):
    """The numbers of the turns that lead the word into its own class."""
    words = [least_in_class(text) for text in _all_turned(need_word(word), MOST_CLASS_SIGNS)]
    return tuple([turn for turn in range(6) if words[turn] == words[0]])


def least_turned(word):
    """The pair (LEAST, TURN): the first least conjugate of the six turned words, and its turn."""
    words = [least_in_class(text) for text in _all_turned(need_word(word), MOST_CLASS_SIGNS)]
    _, least, turn = min([(len(text), text, at) for at, text in enumerate(words)])
    return least, turn


def _moved_back(word, mover):
    """The word that a mover moves to this one."""
    return joined_text(joined_text(mover, word), back_text(mover))


def turn_of(wordlist):
    """The pair (TURN, V) such that V moves the words of the turn to the three words, or None."""
    if not isinstance(wordlist, tuple) or len(wordlist) != 3:
        raise BadScript(None)
    for place, word in enumerate(wordlist):
        if not is_word(word):
            raise BadScript(place)
    words = [reduced_text(word) for word in wordlist]
    codes = coded(words[1])
    middle = len(codes) // 2
    if not is_mirror_row(codes) or codes[middle] != ONE:
        return None
    # What moves "1" to a word is told but for a "1" ahead of it.
    tail = spelled_out(codes[middle + 1:])
    for mover in (tail, joined_text("1", tail)):
        turn = _turn_of_words(tuple([_moved_back(word, mover) for word in words]))
        if turn is not None:
            return turn, mover
    return None
