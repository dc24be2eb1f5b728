"""Two tables gone through at once, from the places of "" on."""

from netsredrawn.errors import TooGreat
from netsredrawn.tables import MOST_NUMBERS


class Pairing:
    """The pairs of numbers to which some word leads in both tables, as a table of lists.

    Squares are met one from another. Where a square is met again, or has fewer than four
    numbers, no square between it and the first one can be cut off: so it is seen early
    where too many are left.
    """

    def __init__(self, table, other_table):
        self.table = table
        self.other_table = other_table
        self.pairs = []
        self.numbers = {}
        self.rows = ([], [], [])
        self.heads = []
        self.behind = []
        self.kept_heads = {}
        self.many_kept = 0

    def stepped(self, change, pair):
        """The pair to which a change leads, or None where one table tells nothing."""
        there = self.table[change][pair[0]]
        other = self.other_table[change][pair[1]]
        if there is None or other is None:
            return None
        return there, other

    def add_square(self, pair, behind):
        """Number the pairs of a new square, met from the square of the head behind."""
        square = [pair]
        for step in (self.stepped(0, pair), self.stepped(2, pair), self.stepped(2, self.stepped(0, pair))):
            if step not in square:
                square.append(step)
        head = len(self.pairs)
        for each in square:
            self.numbers[each] = len(self.pairs)
            self.pairs.append(each)
            self.heads.append(head)
            self.behind.append(behind)
            self.rows[1].append(None)
        for each in square:
            self.rows[0].append(self.numbers[self.stepped(0, each)])
            self.rows[2].append(self.numbers[self.stepped(2, each)])
        if len(square) < 4:
            self.keep(head)

    def keep(self, head):
        """Keep a square and those between it and the first one."""
        while head is not None and head not in self.kept_heads:
            self.kept_heads[head] = True
            self.many_kept += self.heads[head:head + 4].count(head)
            head = self.behind[head]
        if self.many_kept > MOST_NUMBERS:
            raise TooGreat(MOST_NUMBERS)

    def step_on(self, number):
        """Let change 1 lead from a number, if it does not yet."""
        there = self.stepped(1, self.pairs[number])
        if there is None or self.rows[1][number] is not None:
            return
        if there not in self.numbers:
            self.add_square(there, self.heads[number])
        else:
            self.keep(self.heads[number])
            self.keep(self.heads[self.numbers[there]])
        self.rows[1][number] = self.numbers[there]
        self.rows[1][self.numbers[there]] = number


def paired_rows(table, other_table):
    """The table of lists of what is reached in both tables at once, nothing cut off."""
    pairing = Pairing(table, other_table)
    pairing.add_square((0, 0), None)
    number = 0
    while number < len(pairing.pairs):
        pairing.step_on(number)
        number += 1
    return pairing.rows
