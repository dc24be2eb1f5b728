"""Webs: words of a word list laid out as loops and folded together.

Four nodes 4 * Q .. 4 * Q + 3 are a square: change 0 leads from a node to node ^ 1, change 2
to node ^ 2. Each node has a word that leads to it from node 0. Nodes that are one place
stand below one another; between a node and the one above it there is a gap, a word of
the lot: the word of the node is the gap THEN the word of the one above. Likewise the word
of a node THEN "1" is a row of papers THEN the word of the node to which change 1 leads. So no
word on the way is longer than two words of nodes and a character together.
"""

from netsredrawn.syllables import ONE, coded, reduced_text
from netsredrawn.tables import ordered_table


class Web:
    """A web, and the papers that tell its gaps."""

    def __init__(self, papers):
        self.papers = papers
        self.above = []
        self.gaps = []
        self.ones = []
        self.waiting = []
        self.new_square()

    def new_square(self):
        """The first node of four new ones."""
        first = len(self.above)
        for node in range(first, first + 4):
            self.above.append(node)
            self.gaps.append(None)
            self.ones.append(None)
        return first

    def found(self, node):
        """The pair of the node above all that are one place with a node, and the gap between."""
        trail = []
        while self.above[node] != node:
            trail.append(node)
            node = self.above[node]
        gap = None
        for each in reversed(trail):
            gap = self.papers.joined(self.gaps[each], gap)
            self.gaps[each] = gap
            self.above[each] = node
        return node, gap

    def wait(self, node, other, row):
        """Put down that two nodes are one place: the word of node is the row THEN the word of other."""
        self.waiting.append((node, other, row))

    def fold(self):
        """Make one place of all pairs of nodes that wait for it."""
        while self.waiting:
            node, other, row = self.waiting.pop()
            self.unite_one(node, other, row)

    def unite(self, node, other, row):
        """Make two nodes one place: the word of node is the row THEN the word of other."""
        self.wait(node, other, row)
        self.fold()

    def unite_one(self, node, other, row):
        """Put one of two nodes below the other; what follows from it is to wait."""
        papers = self.papers
        high, high_gap = self.found(node)
        low, low_gap = self.found(other)
        if high == low:
            return
        gap = papers.joined(papers.joined(papers.undone(high_gap), row), low_gap)
        if high < low:
            high, low, gap = low, high, papers.undone(gap)
        self.above[high] = low
        self.gaps[high] = gap
        if self.ones[high] is not None:
            self.carry_one(low, self.ones[high], papers.undone(gap))
        self.wait(high ^ 1, low ^ 1, gap)
        self.wait(high ^ 2, low ^ 2, gap)

    def carry_one(self, low, step, gap):
        """Let change 1 lead from a node also where it led from the one below it."""
        papers = self.papers
        there, row = step
        row = papers.joined(gap, row)
        if self.ones[low] is None:
            self.ones[low] = (there, row)
        else:
            other, other_row = self.ones[low]
            self.wait(other, there, papers.joined(papers.undone(other_row), row))

    def tie(self, node, other, row):
        """Let change 1 lead from node to other: its word THEN "1" is the row THEN that of other."""
        papers = self.papers
        top, gap = self.found(node)
        other_top, other_gap = self.found(other)
        row = papers.joined(papers.joined(papers.undone(gap), row), other_gap)
        if self.ones[top] is not None:
            there, told = self.ones[top]
            self.unite(other_top, there, papers.joined(papers.undone(row), told))
        elif self.ones[other_top] is not None:
            there, told = self.ones[other_top]
            self.unite(top, there, papers.joined(row, told))
        else:
            self.ones[top] = (other_top, row)
            self.ones[other_top] = (top, papers.undone(row))

    def add_path(self, node, other, codes, row):
        """Let a reduced row of codes lead from node to other, by a row of papers.

        The word of node THEN the codes is the row THEN the word of other.
        """
        tail = 0
        if codes and codes[-1] != ONE:
            tail = codes[-1]
            codes = codes[:-1]
        if not codes:
            self.unite(node ^ tail, other, row)
            return
        for code in codes[:-1]:
            if code == ONE:
                there = self.new_square()
                self.tie(node, there, None)
                node = there
            else:
                node = node ^ code
        self.tie(node, other ^ tail, row)

    def led(self, codes):
        """The pair of the node to which codes lead from node 0, and the gap; None if nowhere."""
        node, gap = 0, None
        for code in codes:
            if code != ONE:
                node = node ^ code
            elif self.ones[node] is None:
                return None
            else:
                node, row = self.ones[node]
                gap = self.papers.joined(gap, row)
            node, row = self.found(node)
            gap = self.papers.joined(gap, row)
        return node, gap


def web_of(words, papers):
    """The web of some words."""
    web = Web(papers)
    for place, word in enumerate(words):
        codes = coded(word)
        if codes:
            web.add_path(0, 0, codes, papers.listed(place, reduced_text(word)))
    return web


def web_table(web):
    """The table of the lot of a web.

    Nothing is to be cut off: each node lies on the way of a reduced word that is in the lot.
    """
    nodes = list(range(len(web.above)))
    tops = [web.found(node)[0] for node in nodes]
    one = [None] * len(tops)
    for node in nodes:
        if web.ones[node] is not None:
            one[node] = tops[web.ones[node][0]]
    table = ([tops[node ^ 1] for node in nodes], one, [tops[node ^ 2] for node in nodes])
    return ordered_table(table, 0)
