"""What a passed value may be: integers, words and rows of words."""

from netsredrawn.errors import BadLot, BadNumber, BadWord


def is_number(value):
    """Whether a value is an integer; True and False are none."""
    return isinstance(value, int) and not isinstance(value, bool)


def is_number_in(value, least, most):
    """Whether a value is an integer from least to most."""
    return is_number(value) and least <= value <= most


def need_number_in(value, least, most):
    """The integer, if it is one from least to most."""
    if not is_number_in(value, least, most):
        raise BadNumber(value)
    return value


def strange_place(text):
    """The place of the first character of a string that is none of 0, 1, 2."""
    for place, sign in enumerate(text):
        if sign not in ("0", "1", "2"):
            return place
    return None


def is_word(value):
    """Whether a value is a word, reduced or not."""
    return isinstance(value, str) and strange_place(value) is None


def need_word(word):
    """The word as it is passed."""
    if not isinstance(word, str):
        raise BadWord(None)
    place = strange_place(word)
    if place is not None:
        raise BadWord(place)
    return word


def need_words(wordlist):
    """The tuple of at most 100 words as it is passed."""
    if not isinstance(wordlist, tuple) or len(wordlist) > 100:
        raise BadWord(None)
    for word in wordlist:
        need_word(word)
    return wordlist


def need_word_list(wordlist, most):
    """The tuple of at most 12 words of at most so many characters each."""
    if not isinstance(wordlist, tuple) or len(wordlist) > 12:
        raise BadLot(None)
    for place, word in enumerate(wordlist):
        if not is_word(word) or len(word) > most:
            raise BadLot(place)
    return wordlist
