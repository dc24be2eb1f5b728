"""Rows of papers as they come: each word that is made, with the row that makes it first.

The number of a row stands for its word; None stands for the word "".
"""

from netsredrawn.syllables import back_text, joined_text


class Papers:
    """All rows so far, no two of which make the same word."""

    def __init__(self):
        self.rows = []
        self.words = []
        self.numbers = {}

    def kept(self, word, row):
        """The number of the row that makes a word: this row, if there is no other one."""
        if word == "":
            return None
        if word not in self.numbers:
            self.numbers[word] = len(self.rows)
            self.rows.append(row)
            self.words.append(word)
        return self.numbers[word]

    def listed(self, place, word):
        """The row of the reduced word at a place of the word list."""
        return self.kept(word, ("word", place))

    def undone(self, row):
        """The row of the back of a word."""
        if row is None:
            return None
        return self.kept(back_text(self.words[row]), ("back", row))

    def joined(self, row, other):
        """The row of one word THEN another one."""
        if row is None:
            return other
        if other is None:
            return row
        return self.kept(joined_text(self.words[row], self.words[other]), ("then", row, other))


class NoPapers:
    """What stands in the place of papers where nobody asks for them."""

    def listed(self, _place, _word):
        """No row."""
        return None

    def undone(self, _row):
        """No row."""
        return None

    def joined(self, _row, _other):
        """No row."""
        return None


def needed_rows(papers, last):
    """The rows of the paper that tells the word of a row, numbered anew, and their words."""
    if last is None:
        return [], []
    needed = {last: True}
    for number in range(last, -1, -1):
        row = papers.rows[number]
        if number in needed and row[0] != "word":
            for each in row[1:]:
                needed[each] = True
    order = sorted(needed)
    place = {}
    rows = []
    for number in order:
        row = papers.rows[number]
        if row[0] != "word":
            row = (row[0],) + tuple([place[each] for each in row[1:]])
        place[number] = len(rows)
        rows.append(row)
    return rows, [papers.words[number] for number in order]
