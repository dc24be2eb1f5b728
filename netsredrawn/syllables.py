"""Words as rows of syllables, unchecked.

A reduced word is "1" and one of "0", "2", "02" by turns. Each of these syllables is
its own back. They have the codes 4 and 1, 2, 3; of two neighbors below 4 the codes
joined by ^ are the code of both together, 0 being nothing.
"""

ONE = 4
SIGNS = ("", "0", "2", "02", "1")
CODES = {"": 0, "0": 1, "2": 2, "02": 3, "1": 4}


def put_code(codes, code):
    """Lead a reduced row of codes on by one more syllable."""
    if not codes or (codes[-1] == ONE) != (code == ONE):
        codes.append(code)
        return
    last = codes.pop()
    if last != code:
        codes.append(last ^ code)


def put_codes(codes, more):
    """Lead a reduced row of codes on by another one: only where they meet is anything looked at."""
    at = 0
    while at < len(more) and codes and (codes[-1] == ONE) == (more[at] == ONE):
        last = codes.pop()
        at += 1
        if last != more[at - 1]:
            codes.append(last ^ more[at - 1])
            break
    codes.extend(more[at:])


def coded(word):
    """The codes of the reduced word of any word."""
    codes = []
    for sign in word:
        put_code(codes, CODES[sign])
    return codes


def spelled_out(codes):
    """The reduced word of a reduced row of codes."""
    return "".join([SIGNS[code] for code in codes])


def is_reduced_text(word):
    """Whether a string of the characters 0, 1, 2 is reduced."""
    return not ("00" in word or "11" in word or "22" in word or "20" in word)


def reduced_text(word):
    """The reduced word of any word."""
    if is_reduced_text(word):
        return word
    return spelled_out(coded(word))


def back_text(word):
    """The back of a reduced word."""
    return word[::-1].replace("20", "02")


def last_syllable(word, end):
    """The syllable of a reduced word that ends ahead of a place."""
    if word[end - 1] == "2" and end > 1 and word[end - 2] == "0":
        return "02"
    return word[end - 1]


def first_syllable(word, start):
    """The syllable of a reduced word that begins at a place."""
    if word[start:start + 2] == "02":
        return "02"
    return word[start]


def joined_text(word, other):
    """One reduced word THEN another one: only where they meet is anything looked at."""
    end, start = len(word), 0
    while end > 0 and start < len(other):
        tail = last_syllable(word, end)
        head = first_syllable(other, start)
        if tail != head:
            if tail == "1" or head == "1":
                break
            merged = SIGNS[CODES[tail] ^ CODES[head]]
            return word[:end - len(tail)] + merged + other[start + len(head):]
        end -= len(tail)
        start += len(head)
    return word[:end] + other[start:]


def is_mirror_row(codes):
    """Whether a reduced row of codes is that of a mirror."""
    return len(codes) % 2 == 1 and codes == codes[::-1]


def is_mirror_text(word):
    """Whether a word, reduced or not, is a mirror."""
    return is_mirror_row(coded(word))


def unwound(codes):
    """A pair (V, RING) of rows of codes: V moves RING to the reduced row.

    RING is empty, or one syllable, or begins with 1 and does not end with it, so that
    its two ends do not meet either.
    """
    low, high = 0, len(codes)
    while high - low > 1 and codes[low] == codes[high - 1]:
        low, high = low + 1, high - 1
    mover, ring = codes[high:], codes[low:high]
    if len(ring) < 2 or ring[0] == ONE:
        return mover, ring
    first, last = ring[0], ring[-1]
    if last == ONE:
        return [first] + mover, ring[1:] + [first]
    return [first] + mover, ring[1:-1] + [last ^ first]
