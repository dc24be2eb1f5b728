"""Boards, which lead nets through many deeds without building them."""

from netsredrawn.addresses import address_cycle, is_address, led_address, need_short, tally_cycles
from netsredrawn.deeds import need_deed
from netsredrawn.doing import made_net
from netsredrawn.dyes import first_dyeing, need_sign
from netsredrawn.errors import BadFlag, BadName, BadNumber, NothingBack, TooGreat
from netsredrawn.homes import whole_deed
from netsredrawn.lettering import is_name
from netsredrawn.nets import need_net
from netsredrawn.renamings import need_renaming
from netsredrawn.rounds import PAIRS, need_pair
from netsredrawn.sequence import SAME, limited_after
from netsredrawn.signs import sign_and_bits
from netsredrawn.syllables import reduced_text
from netsredrawn.values import is_number, need_number_in, need_word

MOST_DEEDS = 60
MOST_FLAGS = 960


class Trial:
    """What keeps how a board stands while a block is tried on it."""

    def __init__(self, board):
        self.board = board
        self.record = board.record
        self.pins = board.pins
        self.past = board.past
        self.future = board.future

    def __enter__(self):
        self.record = self.board.record
        self.pins = self.board.pins
        self.past = self.board.past
        self.future = self.board.future
        return self.board

    def __exit__(self, kind, value, trace):
        board = self.board
        board.record = self.record
        board.pins = self.pins
        board.past = self.past
        board.future = self.future


class Board:
    """A first net, a record of deeds, and pins: it stands for the net that the deeds make.

    past and future are the steps that can be taken back and done again, the last ones those
    that come first, each with the record and the pins that it then brings back.
    """

    def __init__(self, net):
        self.first = need_net(net)
        self.record = ()
        self.pins = ()
        self.past = ()
        self.future = ()

    def __eq__(self, other):
        return (isinstance(other, Board) and self.first == other.first and self.record == other.record
                and self.pins == other.pins)

    @property
    def size(self):
        """How many flags the net has."""
        many = len(self.first[0])
        for deed in self.record:
            many = many * len(deed[0])
        return many

    def do_step(self, step, record, pins):
        """Let the board stand as a step leads it."""
        self.past = self.past + ((step, self.record, self.pins),)
        self.future = ()
        self.record = record
        self.pins = tuple(sorted(pins))

    def need_room(self):
        """Look whether one more deed may be put into the record."""
        if len(self.record) >= MOST_DEEDS:
            raise TooGreat(MOST_DEEDS)

    def need_place(self, address):
        """The address, if it is one."""
        if not is_address(self.first, self.record, address):
            raise BadFlag(address)
        return address

    def enter(self, deed):
        """Put a deed into the record, at its end."""
        need_deed(deed)
        self.need_room()
        pins = [(name, address + (0,)) for name, address in self.pins]
        self.do_step(("enter", deed), self.record + (deed,), pins)

    def late(self, number, deed):
        """Put a deed into the record, as this number."""
        need_number_in(number, 0, len(self.record))
        need_deed(deed)
        self.need_room()
        pins = [(name, address[:number + 1] + (0,) + address[number + 1:]) for name, address in self.pins]
        self.do_step(("late", number, deed), self.record[:number] + (deed,) + self.record[number:], pins)

    def strike(self, number):
        """Take the deed of this number out."""
        need_number_in(number, 0, len(self.record) - 1)
        pins = [(name, address[:number + 1] + address[number + 2:]) for name, address in self.pins]
        self.do_step(("strike", number), self.record[:number] + self.record[number + 1:], pins)

    def melt(self, number):
        """Take one deed in the place of the deed of this number and the next one."""
        need_number_in(number, 0, len(self.record) - 2)
        other = self.record[number + 1]
        deed = limited_after(self.record[number], other)
        pins = []
        for name, address in self.pins:
            cell = address[number + 1] * len(other[0]) + address[number + 2]
            pins.append((name, address[:number + 1] + (cell,) + address[number + 3:]))
        self.do_step(("melt", number), self.record[:number] + (deed,) + self.record[number + 2:], pins)

    def need_swap(self, number, deed, pair):
        """Look whether a deed may be taken in the place of the deed of this number, by this renaming."""
        need_number_in(number, 0, len(self.record) - 1)
        need_renaming(self.record[number], deed, pair)
        for word in pair[1]:
            need_short(word)

    def carry(self, number, pair, address):
        """The address to which a swap that was looked at carries one."""
        cells, words = pair
        cell = address[number + 1]
        ahead = led_address(self.first, self.record[:number], address[:number + 1], words[cell])
        return ahead + (cells[cell],) + address[number + 2:]

    def swap(self, number, deed, pair):
        """Take another deed in the place of the deed of this number, by a renaming of the two."""
        self.need_swap(number, deed, pair)
        pins = [(name, self.carry(number, pair, address)) for name, address in self.pins]
        record = self.record[:number] + (deed,) + self.record[number + 1:]
        self.do_step(("swap", number, deed, pair), record, pins)

    def carried(self, number, deed, pair, address):
        """The address to which this swap would carry one."""
        self.need_swap(number, deed, pair)
        return self.carry(number, pair, self.need_place(address))

    def pin(self, name, address):
        """Give a name to an address."""
        if not is_name(name) or name in [each for each, _ in self.pins]:
            raise BadName(name)
        self.need_place(address)
        self.do_step(("pin", name, address), self.record, list(self.pins) + [(name, address)])

    def unpin(self, name):
        """Take a name away."""
        self.pinned(name)
        self.do_step(("unpin", name), self.record, [pair for pair in self.pins if pair[0] != name])

    def undo(self, *, times=1):
        """Take so many steps back."""
        if not is_number(times) or times < 1:
            raise BadNumber(times)
        if times > len(self.past):
            raise NothingBack()
        for _ in range(times):
            step, record, pins = self.past[-1]
            self.past = self.past[:-1]
            self.future = self.future + ((step, self.record, self.pins),)
            self.record = record
            self.pins = pins

    def again(self, *, times=1):
        """Do so many steps again that were taken back."""
        if not is_number(times) or times < 1:
            raise BadNumber(times)
        if times > len(self.future):
            raise NothingBack()
        for _ in range(times):
            step, record, pins = self.future[-1]
            self.future = self.future[:-1]
            self.past = self.past + ((step, self.record, self.pins),)
            self.record = record
            self.pins = pins

    def trial(self):
        """An object for one with statement, behind which the board stands as ahead of it."""
        return Trial(self)

    def copy(self):
        """Another board that stands likewise."""
        board = Board(self.first)
        board.record = self.record
        board.pins = self.pins
        board.past = self.past
        board.future = self.future
        return board

    def pinned(self, name):
        """The address that has a name."""
        if isinstance(name, str):
            for each, address in self.pins:
                if each == name:
                    return address
        raise BadName(name)

    def names_at(self, address):
        """The names of an address, ascending."""
        self.need_place(address)
        return tuple([name for name, each in self.pins if each == address])

    def number_of(self, address):
        """The number of an address."""
        self.need_place(address)
        number = address[0]
        for deed, cell in zip(self.record, address[1:]):
            number = number * len(deed[0]) + cell
        return number

    def address_of(self, number):
        """The address of a number."""
        need_number_in(number, 0, self.size - 1)
        cells = ()
        for deed in self.record[::-1]:
            number, cell = divmod(number, len(deed[0]))
            cells = (cell,) + cells
        return (number,) + cells

    def lead(self, address, word):
        """The address to which the word leads."""
        self.need_place(address)
        return led_address(self.first, self.record, address, reduced_text(need_word(word)))

    def cycle_length(self, address, word):
        """How long the cycle of an address for the word is."""
        self.need_place(address)
        return address_cycle(self.first, self.record, address, reduced_text(need_word(word)))

    def degree(self, address, pair):
        """The degree of the corner, the edge or the face of an address."""
        self.need_place(address)
        return address_cycle(self.first, self.record, address, need_pair(pair))

    def cycles(self, word):
        """How many cycles the word has in the net."""
        return tally_cycles(self.first, self.record, need_word(word))

    def counts(self):
        """How many corners, edges and faces the net has."""
        return tuple([tally_cycles(self.first, self.record, pair) // 2 for pair in PAIRS])

    def has_dyeing(self, sign):
        """Whether the net has a dyeing for the sign."""
        need_sign(sign)
        for deed in self.record:
            whole_deed(deed)
        for deed in self.record[::-1]:
            if sign is not None:
                sign = sign_and_bits(deed, sign)[0]
        return sign is not None and first_dyeing(self.first, sign) is not None

    def built(self):
        """The net itself."""
        if self.size > MOST_FLAGS:
            raise TooGreat(MOST_FLAGS)
        net = self.first
        for deed in self.record:
            net = made_net(deed, net)
        return net

    def as_deed(self):
        """The record as one deed."""
        told = SAME
        for deed in self.record:
            told = limited_after(told, deed)
        return told


def under(manager, act):
    """What act tells of that which a with statement over manager gives."""
    with manager as one:
        return act(one)
