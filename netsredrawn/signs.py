"""Which dyeings the nets have that a whole deed makes, told for all nets."""

from netsredrawn.deeds import need_deed
from netsredrawn.dyes import counted, is_sign, need_sign, word_count
from netsredrawn.errors import BadSign, BadTable
from netsredrawn.homes import need_whole, whole_deed
from netsredrawn.syllables import spelled_out
from netsredrawn.values import is_number_in, is_word
from netsredrawn.walks import closed_walks, walked_codes

MOST_SIGNS = 400
NO_TABLE = (None, None)


def _step_bit(deed, sign, old, change, cell):
    """What the bits of a cell and of the cell to which a step leads must be together."""
    return counted(sign, change) ^ word_count(deed[change][cell][1], old)


def _bits(deed, sign, old):
    """The bits of the cells with which a dyeing for old makes one for the sign, or None."""
    bits = {0: 0}
    order = [0]
    at = 0
    while at < len(order):
        here = order[at]
        at += 1
        for change in range(3):
            there = deed[change][here][0]
            bit = bits[here] ^ _step_bit(deed, sign, old, change, here)
            if there not in bits:
                bits[there] = bit
                order.append(there)
            elif bits[there] != bit:
                return None
    return tuple([bits[cell] for cell in range(len(deed[0]))])


def sign_and_bits(deed, sign):
    """The pair of what the sign table of a whole deed tells and the bits of the cells, or a pair of None."""
    for old in range(8):
        bits = _bits(deed, sign, old)
        if bits is not None:
            return old, bits
    return NO_TABLE


def told_signs(deed):
    """The sign table of a whole deed that was looked at."""
    return tuple([sign_and_bits(deed, sign)[0] for sign in range(8)])


def sign_table(deed):
    """The sign table of the whole deed."""
    return told_signs(need_whole(deed))


def sides_rule(deed):
    """What the sign table tells for the sign of two sides."""
    return sign_and_bits(need_whole(deed), 7)[0]


def _is_unlike(deed, sign, old, walk):
    """Whether a walk from cell 0 comes back and has another count than what it gathers."""
    there, codes = walked_codes(deed, 0, walk)
    return there == 0 and word_count(walk, sign) != word_count(spelled_out(codes), old)


def sign_paper(deed, sign):
    """A right sign paper on the whole deed and the sign."""
    need_deed(deed)
    need_sign(sign)
    told, bits = sign_and_bits(whole_deed(deed), sign)
    if told is not None:
        return "sign", told, bits
    closed = closed_walks(deed, 0)
    walks = []
    for old in range(8):
        walks.append([walk for walk in closed if _is_unlike(deed, sign, old, walk)][0])
    return "never", tuple(walks)


def _are_right_bits(deed, sign, old, bits):
    """Whether a value is the row of bits with which a dyeing for old makes one for the sign."""
    if not is_sign(old) or not isinstance(bits, tuple) or len(bits) != len(deed[0]):
        return False
    for bit in bits:
        if not is_number_in(bit, 0, 1):
            return False
    for change in range(3):
        for cell, bit in enumerate(bits):
            if bit ^ bits[deed[change][cell][0]] != _step_bit(deed, sign, old, change, cell):
                return False
    return bits[0] == 0


def _are_right_walks(deed, sign, walks):
    """Whether a value is a row of eight walks, one against each sign."""
    if not isinstance(walks, tuple) or len(walks) != 8:
        return False
    for old, walk in enumerate(walks):
        if not is_word(walk) or len(walk) > MOST_SIGNS or not _is_unlike(deed, sign, old, walk):
            return False
    return True


def is_sign_paper(deed, sign, paper):
    """Whether a value is a right sign paper on the whole deed and the sign."""
    need_deed(deed)
    need_sign(sign)
    whole_deed(deed)
    if not isinstance(paper, tuple) or not paper or not isinstance(paper[0], str):
        return False
    if paper[0] == "sign":
        return len(paper) == 3 and _are_right_bits(deed, sign, paper[1], paper[2])
    return paper[0] == "never" and len(paper) == 2 and _are_right_walks(deed, sign, paper[1])


def _has_table_form(value):
    """Whether a value is a tuple of eight things, each None or a sign."""
    if not isinstance(value, tuple) or len(value) != 8:
        return False
    for each in value:
        if each is not None and not is_sign(each):
            return False
    return True


def _keeps_together(table, sign):
    """Whether a sign and each lesser one have, together, what they have, together."""
    for less in range(sign):
        if table[less] is not None and table[less ^ sign] != table[less] ^ table[sign]:
            return False
    return True


def _table_fault(value):
    """The pair of a rule and a place that a table of signs breaks, or None."""
    if not _has_table_form(value):
        return "form", None
    if value[0] != 0:
        return "zero", 0
    for sign in range(8):
        if value[sign] is not None and not _keeps_together(value, sign):
            return "together", sign
    return None


def is_table_of_signs(value):
    """Whether a value is a table of signs."""
    return _table_fault(value) is None


def need_table_of_signs(table):
    """The table of signs."""
    fault = _table_fault(table)
    if fault is not None:
        raise BadTable(fault[0], fault[1])
    return table


def sign_through(table, sign):
    """What a table tells for a sign or None."""
    if sign is None:
        return None
    return table[sign]


def signs_after(table, other_table):
    """The table of a deed with the first table and then one with the second one."""
    need_table_of_signs(table)
    need_table_of_signs(other_table)
    return tuple([sign_through(table, sign) for sign in other_table])


def _are_net_signs(value):
    """Whether a value is an ascending tuple of signs with 0 and with each two of them together."""
    if not isinstance(value, tuple) or len(value) > 8:
        return False
    for sign in value:
        if not is_sign(sign):
            return False
    if list(value) != [sign for sign in range(8) if sign in value] or 0 not in value:
        return False
    for sign in value:
        if [other for other in value if sign ^ other not in value]:
            return False
    return True


def made_signs(table, net_signs):
    """The signs for which what a deed with this table makes of a net with these signs has a dyeing."""
    need_table_of_signs(table)
    if not _are_net_signs(net_signs):
        raise BadSign(net_signs)
    return tuple([sign for sign in range(8) if table[sign] is not None and table[sign] in net_signs])
