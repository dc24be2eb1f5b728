"""Webs of deeds: cells joined by the words of their steps, and folded together.

Here the word of a node begins at some cell, and what stands in the place of a row of papers
is a walk from the cell of one node to the cell of another one: both gather words along the
same way.
"""

from heapq import heappop, heappush

from netsredrawn.papers import NoPapers
from netsredrawn.syllables import back_text, coded, joined_text
from netsredrawn.tables import cut_leaves, listed_rows, ordered_table
from netsredrawn.walks import cell_walks
from netsredrawn.webs import Web, web_table


class Walks:
    """Walks in the place of papers: reduced strings, None for the one that stays."""

    def listed(self, _place, walk):
        """The walk."""
        return walk

    def undone(self, walk):
        """The back of a walk."""
        if walk is None:
            return None
        return back_text(walk)

    def joined(self, walk, other):
        """One walk THEN another one."""
        if walk is None:
            return other
        if other is None:
            return walk
        told = joined_text(walk, other)
        if told == "":
            return None
        return told


class CellWeb(Web):
    """A web that is folded when all its paths are laid, by the shortest walks first.

    Folded in any other order, walks may come out many thousand times as long.
    """

    def __init__(self, papers):
        Web.__init__(self, papers)
        self.waited = 0

    def wait(self, node, other, row):
        """Put down that two nodes are one place."""
        length = 0
        if row is not None:
            length = len(row)
        heappush(self.waiting, (length, self.waited, node, other, row))
        self.waited = self.waited + 1

    def fold(self):
        """Make one place of all pairs of nodes that wait for it."""
        while self.waiting:
            _, _, node, other, row = heappop(self.waiting)
            self.unite_one(node, other, row)

    def unite(self, node, other, row):
        """Put down that two nodes are one place: they are made one when all paths are laid."""
        self.wait(node, other, row)


def cell_web(deed, root, papers):
    """The web of the cells that steps reach from a cell, which has the node 0."""
    web = CellWeb(papers)
    nodes = {}
    for cell in cell_walks(deed, root):
        nodes[cell] = 0
        if cell != root:
            nodes[cell] = web.new_square()
    for cell in nodes:
        for change in range(3):
            there, word = deed[change][cell]
            # A step and its way back are the same path; it is laid once.
            if cell <= there:
                web.add_path(nodes[cell], nodes[there], coded(word), papers.listed(change, str(change)))
    web.fold()
    return web


def own_table(deed, root):
    """The table, of any length, of the lot of what all closed walks from a cell gather."""
    rows = listed_rows(web_table(cell_web(deed, root, NoPapers())))
    cut_leaves(rows, 0)
    return ordered_table(rows, 0)


def is_whole_rows(deed):
    """Whether a deed is whole."""
    if len(cell_walks(deed, 0)) < len(deed[0]):
        return False
    return web_table(cell_web(deed, 0, NoPapers())) == ((0,), (0,), (0,))


def home_walks(deed):
    """Homes of a whole deed."""
    web = cell_web(deed, 0, Walks())
    return tuple([web.led(coded(sign))[1] for sign in ("0", "1", "2")])
