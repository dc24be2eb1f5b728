"""Reading texts character by character: what can't be read is refused at once, at its place."""

from netsredrawn.errors import BadText
from netsredrawn.lettering import MOST_LETTERS, is_letter

DIGITS = ("0", "1", "2", "3", "4", "5", "6", "7", "8", "9")
WORD_SIGNS = ("0", "1", "2")


class Reader:
    """A text and the place up to which it is read.

    Whatever is read may go on to a text that can be read: so the place of the first character
    that is not taken is the one to be told.
    """

    def __init__(self, text):
        if not isinstance(text, str):
            raise BadText(None, None)
        self.text = text
        self.place = 0

    def next_sign(self):
        """The next character, "" at the end."""
        return self.text[self.place:self.place + 1]

    def goes_on_with(self, signs):
        """Whether these characters come next."""
        return self.text[self.place:self.place + len(signs)] == signs

    def refuse(self):
        """Tell that the text can't be read here."""
        lines = self.text[:self.place].split("\n")
        raise BadText(len(lines) - 1, len(lines[-1]))

    def expect(self, signs):
        """Read these characters."""
        for sign in signs:
            if self.next_sign() != sign:
                self.refuse()
            self.place = self.place + 1

    def expect_end(self):
        """Look whether the text ends here."""
        if self.next_sign() != "":
            self.refuse()

    def one_of(self, words):
        """Read one of some words, none of which is the beginning of another one."""
        left = list(words)
        read = ""
        while read not in left:
            sign = self.next_sign()
            read = read + sign
            left = [word for word in left if sign != "" and word[:len(read)] == read]
            if not left:
                self.refuse()
            self.place = self.place + 1
        return read

    def signs_of(self, signs, most):
        """Read from one to so many of some characters."""
        start = self.place
        while self.place - start < most and self.next_sign() in signs:
            self.place = self.place + 1
        if self.place == start:
            self.refuse()
        return self.text[start:self.place]

    def read_number(self, most):
        """Read an integer of at most so many digits."""
        if self.next_sign() == "0":
            self.expect("0")
            return 0
        return int(self.signs_of(DIGITS, most))

    def read_name(self):
        """Read a name."""
        start = self.place
        while self.place - start < MOST_LETTERS and is_letter(self.next_sign()):
            self.place = self.place + 1
        if self.place == start:
            self.refuse()
        return self.text[start:self.place]

    def read_word(self, most):
        """Read the item of a word of at most so many characters, reduced or not."""
        if self.next_sign() == "-":
            self.expect("-")
            return ""
        return self.signs_of(WORD_SIGNS, most)
