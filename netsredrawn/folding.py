"""The tables of word lists, and papers that tell a word by a word list."""

from netsredrawn.errors import BadPaper, TooGreat
from netsredrawn.papers import NoPapers, Papers, needed_rows
from netsredrawn.syllables import back_text, coded, joined_text, reduced_text
from netsredrawn.values import is_number, need_word, need_word_list
from netsredrawn.webs import web_of, web_table

MOST_SIGNS = 100
MOST_ROWS = 20000
MOST_ROW_SIGNS = 5000


def lot_table_of(words):
    """The table of the lot of any number of words of any length."""
    return web_table(web_of(words, NoPapers()))


def folded(wordlist):
    """The table of the lot of a word list."""
    return lot_table_of(need_word_list(wordlist, MOST_SIGNS))


def spelled_paper(words, word):
    """A paper that tells a word by words of any length, or None if it is not in the lot."""
    papers = Papers()
    there = web_of(words, papers).led(coded(word))
    if there is None or there[0] != 0:
        return None
    rows, made = needed_rows(papers, there[1])
    if len(rows) > MOST_ROWS or max([len(text) for text in made], default=0) > MOST_ROW_SIGNS:
        raise TooGreat(MOST_ROWS)
    return tuple(rows)


def spelled(wordlist, word):
    """A paper that tells the word, or None if the word is not in the lot."""
    need_word_list(wordlist, MOST_SIGNS)
    return spelled_paper(wordlist, need_word(word))


def _is_row(row):
    """Whether a value has one of the three forms of rows."""
    if not isinstance(row, tuple) or len(row) < 2 or not isinstance(row[0], str):
        return False
    for item in row[1:]:
        if not is_number(item):
            return False
    return (row[0], len(row)) in (("word", 2), ("back", 2), ("then", 3))


def _row_word(words, made, row):
    """The word of a row behind those that were made."""
    if not _is_row(row):
        raise BadPaper("row")
    if row[0] == "word":
        if not 0 <= row[1] < len(words):
            raise BadPaper("word")
        return words[row[1]]
    for number in row[1:]:
        if not 0 <= number < len(made):
            raise BadPaper("ahead")
    if row[0] == "back":
        return back_text(made[row[1]])
    return joined_text(made[row[1]], made[row[2]])


def told_by_paper(wordlist, paper):
    """The word that a paper for words of any length tells."""
    if not isinstance(paper, tuple) or len(paper) > 50000:
        raise BadPaper("form")
    words = [reduced_text(word) for word in wordlist]
    made = []
    for row in paper:
        word = _row_word(words, made, row)
        if len(word) > MOST_ROW_SIGNS:
            raise BadPaper("great")
        made.append(word)
    if not made:
        return ""
    return made[-1]


def paper_word(wordlist, paper):
    """The word that the paper tells."""
    return told_by_paper(need_word_list(wordlist, MOST_SIGNS), paper)
