"""What comes of a net when a deed is done many times."""

from netsredrawn.counting import pulled_word
from netsredrawn.deeds import need_deed
from netsredrawn.errors import BadTable, TooGreat
from netsredrawn.euler import need_times
from netsredrawn.forms import MOST_SIGNS, cycle_count, is_long_class_word, need_form, pair_form, summed_form
from netsredrawn.matrices import led_often, number_power
from netsredrawn.nets import need_flag, need_net
from netsredrawn.rounds import need_pair
from netsredrawn.steps import cycle_from, word_action
from netsredrawn.syllables import put_codes, reduced_text, spelled_out
from netsredrawn.values import need_word
from netsredrawn.walks import walked_codes

MOST_LOT_SIGNS = 200
MOST_LOT = 40
MOST_TRAIL_SIGNS = 2000
MOST_STAGES = 100


def _word_form(deed, word):
    """The form of one cycle of a word, pulled through a deed; of words that are too long only the length is right."""
    return summed_form([(each, 1) for each in pulled_word(deed, word)])


def _found_lot(deed, form):
    """For each word of the least closed set with the words of a form its pulled form."""
    rows = {}
    new = [word for word, _ in form[1]]
    while new:
        for word in new:
            if len(word) > MOST_LOT_SIGNS:
                raise TooGreat(MOST_LOT_SIGNS)
        if len(rows) + len(new) > MOST_LOT:
            raise TooGreat(MOST_LOT)
        for word in new:
            rows[word] = _word_form(deed, word)
        added = {}
        for word in new:
            for each, _ in rows[word][1]:
                if each not in rows:
                    added[each] = True
        new = list(added)
    return rows


def closed_lot(deed, form):
    """The least closed set with all words of the form, ascending."""
    need_deed(deed)
    return tuple(sorted(_found_lot(deed, need_form(form))))


def _need_lot(lot):
    """The ascending tuple of long class words."""
    if not isinstance(lot, tuple):
        raise BadTable("lot", None)
    ahead = ""
    for place, word in enumerate(lot):
        if not is_long_class_word(word) or word <= ahead:
            raise BadTable("lot", place)
        ahead = word
    return lot


def _lot_row(lot, form):
    """The edges of a form, and behind them the halves of each word of a lot."""
    halves = {word: many for word, many in form[1]}
    return (form[0],) + tuple([halves.get(word, 0) for word in lot])


def lot_table(deed, lot):
    """A row for each word of a closed lot: the edges, and the halves of all words, of its pulled form."""
    need_deed(deed)
    rows = []
    for place, word in enumerate(_need_lot(lot)):
        form = _word_form(deed, word)
        if max([len(each) for each, _ in form[1]], default=0) > MOST_SIGNS:
            raise TooGreat(MOST_SIGNS)
        if [each for each, _ in form[1] if each not in lot]:
            raise BadTable("lot", place)
        rows.append(_lot_row(lot, form))
    return tuple(rows)


def _total_later(deed, net, form, times, modulus):
    """The total of a form, modulo a number, when a deed was done so many times on a net."""
    found = _found_lot(deed, form)
    lot = sorted(found)
    # Column by column the row that tells a form is led to that of the pulled form.
    rows = [(len(deed[0]),) + (0,) * len(lot)] + [_lot_row(lot, found[word]) for word in lot]
    matrix = [[row[column] for row in rows] for column in range(len(rows))]
    later = led_often(matrix, _lot_row(lot, form), times, modulus)
    told = later[0] * (len(net[0]) // 2)
    for word, halves in zip(lot, later[1:]):
        told = told + halves * cycle_count(net, word)
    return told % modulus


def total_after(deed, net, form, times, modulus):
    """The total of the form, modulo modulus, on what comes of the net when the deed is done so many times."""
    need_deed(deed)
    need_net(net)
    need_form(form)
    need_times(times, modulus)
    return _total_later(deed, net, form, times, modulus)


def rounds_after(deed, net, pair, times, modulus):
    """The number of rounds of two changes there, modulo modulus."""
    need_deed(deed)
    need_net(net)
    need_pair(pair)
    need_times(times, modulus)
    return _total_later(deed, net, pair_form(pair), times, 2 * modulus) // 2


def _next_stage(deed, word):
    """The pair (MANY, V) of what a walk gathers until it comes back to cell 0 for the first time."""
    here, codes = walked_codes(deed, 0, word)
    many = 1
    while here != 0:
        here, more = walked_codes(deed, here, word)
        put_codes(codes, more)
        many = many + 1
    return many, spelled_out(codes)


def _found_trail(deed, word):
    """The trail of a word."""
    many, word = 1, reduced_text(word)
    stages = []
    places = {}
    while word not in places:
        if len(word) > MOST_TRAIL_SIGNS:
            raise TooGreat(MOST_TRAIL_SIGNS)
        if len(stages) == MOST_STAGES:
            raise TooGreat(MOST_STAGES)
        places[word] = len(stages)
        stages.append((many, word))
        many, word = _next_stage(deed, word)
    return tuple(stages), many, places[word]


def word_trail(deed, word):
    """The trail of the word."""
    need_deed(deed)
    return _found_trail(deed, need_word(word))


def _product(numbers, modulus):
    """The product of some numbers, modulo a number."""
    told = 1 % modulus
    for number in numbers:
        told = told * number % modulus
    return told


def _stage_after(trail, times, modulus):
    """The pair of the stage that is reached after so many times and the product of all MANY on the way."""
    stages, last, place = trail
    ways = [many for many, _ in stages]
    if times < len(stages):
        return times, _product(ways[1:times + 1], modulus)
    around = [last] + ways[place + 1:]
    turns, rest = divmod(times - len(stages) + 1, len(around))
    told = _product(ways[1:], modulus) * number_power(_product(around, modulus), turns, modulus)
    told = told * _product(around[:rest], modulus) % modulus
    if rest == 0:
        return len(stages) - 1, told
    return place + rest - 1, told


def cycle_after(deed, net, flag, word, times, modulus):
    """The length, modulo modulus, of the cycle for the word of the flag to which a flag has gone on."""
    need_deed(deed)
    need_net(net)
    need_flag(net, flag)
    need_word(word)
    need_times(times, modulus)
    trail = _found_trail(deed, word)
    stage, told = _stage_after(trail, times, modulus)
    last = trail[0][stage][1]
    return told * len(cycle_from(word_action(net, last), flag)) % modulus
