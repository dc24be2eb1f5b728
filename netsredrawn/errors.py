"""The errors of this package: each one directly below NetError."""


class NetError(ValueError):
    """What every error of this package is."""


class BadWord(NetError):
    """A value that is no word: place is None for what is no string."""

    def __init__(self, place):
        self.place = place


class BadNet(NetError):
    """A value that is no net: the rule that fails and the least flag at which it does."""

    def __init__(self, word, flag):
        self.word = word
        self.flag = flag


class BadFlag(NetError):
    """A value that is no flag of the net in question."""

    def __init__(self, flag):
        self.flag = flag


class BadDeed(NetError):
    """A value that is no deed: the rule that fails and the least cell at which it does."""

    def __init__(self, word, cell):
        self.word = word
        self.cell = cell


class BadPair(NetError):
    """A value that is no pair of changes."""

    def __init__(self, value):
        self.value = value


class BadSign(NetError):
    """A value that is no sign."""

    def __init__(self, value):
        self.value = value


class BadNumber(NetError):
    """A value that is no number of the kind that is asked for."""

    def __init__(self, value):
        self.value = value


class BadTable(NetError):
    """A value that is no table: the rule that fails and where."""

    def __init__(self, word, place):
        self.word = word
        self.place = place


class BadLot(NetError):
    """A value that is no list of words."""

    def __init__(self, place):
        self.place = place


class BadScript(NetError):
    """A value that is no row of the things that are asked for."""

    def __init__(self, place):
        self.place = place


class BadLikeness(NetError):
    """A value that is no likeness."""

    def __init__(self, place):
        self.place = place


class BadRenaming(NetError):
    """A value that is no renaming."""

    def __init__(self, cell):
        self.cell = cell


class BadPaper(NetError):
    """A value that is no paper: the rule that fails."""

    def __init__(self, word):
        self.word = word


class BadText(NetError):
    """A text that can't be read: where."""

    def __init__(self, line, column):
        self.line = line
        self.column = column


class BadName(NetError):
    """A value that is no name of the kind that is asked for."""

    def __init__(self, name):
        self.name = name


class NotWhole(NetError):
    """A deed that isn't whole."""


class NotPlain(NetError):
    """A deed that isn't plain: the least cell with a longer word."""

    def __init__(self, cell):
        self.cell = cell


class NotJoined(NetError):
    """A net of several parts: the least flag that is not in the part of flag 0."""

    def __init__(self, flag):
        self.flag = flag


class NothingBack(NetError):
    """Fewer steps than are to be taken back or done again."""


class TooGreat(NetError):
    """What is passed, or would be told, is greater than a limit."""

    def __init__(self, most):
        self.most = most
