"""Tests of lettering, texts, scripts and parsing."""

import itertools
import random
import string
import unittest

import grammar
from common import NO_WORDS, OTHERS, STRANGE, random_net, random_word, rewritten
from deed_common import APART, NAMED, patched_deed, random_deed
from netsredrawn.errors import BadDeed, BadName, BadNet, BadScript, BadText, BadWord, TooGreat
from netsredrawn.lettering import is_name
from netsredrawn.named import ring
from netsredrawn.nets import is_net
from netsredrawn.parsing import parse_deed, parse_net, parse_script
from netsredrawn.scripts import need_named_book, need_script, script_names
from netsredrawn.texts import deed_text, net_text, script_text, word_item

SPHERE = ((1, 0, 3, 2), (2, 3, 0, 1), (2, 3, 0, 1))
HALF = NAMED["half"]
NO_NAMES = OTHERS + ["", "A", "aB", "a b", "a1", "a" * 13, " a", "a ", "a\n", "-", ("a",), ["a"], 0, 1]


class Told(unittest.TestCase):

    def told(self, error, attribute, call, *values):
        with self.assertRaises(error) as caught:
            call(*values)
        return getattr(caught.exception, attribute)

    def refused(self, call, text):
        with self.assertRaises(BadText) as caught:
            call(text)
        return caught.exception.line, caught.exception.column


def random_script(rng, rows, times=0):
    """A script with so many rows in one another at most."""
    kind = rng.random()
    if times < 2 and kind < 0.3:
        return ("times", random_script(rng, rows, times + 1), rng.choice((0, 1, 2, 3, 10, 10 ** 30 - 1, rng.randrange(10 ** 6))))
    if rows and kind < 0.7:
        return ("row", tuple(random_script(rng, rows - 1) for _ in range(rng.choice((0, 1, 2, 3)))))
    return "".join(rng.choice(string.ascii_lowercase) for _ in range(rng.choice((1, 2, 3, 12))))


def is_script_slowly(value, rows=0, times=0):
    if isinstance(value, str):
        return 1 <= len(value) <= 12 and all(sign in string.ascii_lowercase for sign in value)
    if not isinstance(value, tuple):
        return False
    if len(value) == 2 and value[0] == "row" and isinstance(value[1], tuple):
        return rows < 10 and len(value[1]) <= 60 and all(is_script_slowly(each, rows + 1) for each in value[1])
    if len(value) == 3 and value[0] == "times" and times < 2:
        number = value[2]
        return (is_script_slowly(value[1], rows, times + 1) and isinstance(number, int)
                and not isinstance(number, bool) and 0 <= number < 10 ** 30)
    return False


def nested_rows(many, inside="a"):
    for _ in range(many):
        inside = ("row", (inside,))
    return inside


class NamesTest(Told):

    def test_names(self):
        for name in ("a", "z", "abcdefghijkl", "mnopqrstuvwx", "yz", "row", "times", "never"):
            self.assertIs(is_name(name), True)
        for value in NO_NAMES + ["a" * 20000, "abc{", "`", "{"]:
            self.assertIs(is_name(value), False)
        for sign in (chr(number) for number in range(32, 127)):
            self.assertIs(is_name(sign), sign in string.ascii_lowercase)
            self.assertIs(is_name("a" + sign), sign in string.ascii_lowercase)


class TextsTest(Told):

    def test_items(self):
        self.assertEqual([word_item(word) for word in ("", "0", "20", "11", "0110", "012")], ["-", "0", "02", "-", "-", "012"])
        rng = random.Random(1)
        for _ in range(100):
            word = random_word(rng, 10)
            self.assertEqual(word_item(word), rewritten(word) or "-")
        for value in NO_WORDS:
            self.assertIsNone(self.told(BadWord, "place", word_item, value))
        self.assertEqual(self.told(BadWord, "place", word_item, "01-"), 2)

    def test_nets(self):
        self.assertEqual(net_text(SPHERE), "1 0 3 2\n2 3 0 1\n2 3 0 1")
        rng = random.Random(2)
        for many in [4, 8, 12, 100, 104, 960] + [4 * rng.randint(1, 60) for _ in range(20)]:
            net = random_net(rng, many)
            told = net_text(net)
            self.assertEqual([[int(item) for item in line.split(" ")] for line in told.split("\n")], [list(row) for row in net])
            self.assertEqual(parse_net(told), net)
        for value in OTHERS + [SPHERE[:2], list(SPHERE)]:
            self.assertEqual(self.told(BadNet, "word", net_text, value), "form")

    def test_deeds(self):
        self.assertEqual(deed_text(NAMED["flip"]), "0:2 0:1 0:0")
        self.assertEqual(deed_text(HALF), "1:- 0:1 0:2\n0:- 1:0 1:2")
        rng = random.Random(3)
        for deed in list(NAMED.values()) + [APART] + [patched_deed(rng, rng.choice((1, 3, 12, 48)), 6) for _ in range(12)]:
            told = deed_text(deed)
            self.assertEqual(len(told.split("\n")), len(deed[0]))
            for cell, line in enumerate(told.split("\n")):
                self.assertEqual(line, " ".join(str(row[cell][0]) + ":" + (row[cell][1] or "-") for row in deed))
            self.assertEqual(parse_deed(told), deed)
        for value in OTHERS + [HALF[:2], list(HALF)]:
            self.assertEqual(self.told(BadDeed, "word", deed_text, value), "form")

    def test_scripts(self):
        self.assertEqual(script_text(("row", ("cut", ("times", "half", 3)))), "(cut half*3)")
        self.assertEqual(script_text(("row", ())), "()")
        self.assertEqual(script_text(("times", ("times", ("row", ("a", ("row", ()))), 0), 10 ** 30 - 1)),
                         "(a ())*0*" + "9" * 30)
        self.assertEqual(script_text("row"), "row")
        rng = random.Random(4)
        for _ in range(200):
            script = random_script(rng, 4)
            told = script_text(script)
            self.assertIsNone(grammar.wrong_place(grammar.SCRIPT, told))
            self.assertEqual(parse_script(told), script)
        for value in (None, ("row", ["a"]), ("times", "a", -1)):
            self.told(BadScript, "place", script_text, value)


class ScriptsTest(Told):

    def test_scripts(self):
        rng = random.Random(11)
        for _ in range(200):
            script = random_script(rng, 5)
            self.assertIs(need_script(script), script)
        sixty = ("row", ("a",) * 60)
        ten = nested_rows(10)
        for script in (sixty, ten, ("times", ten, 3), ("times", ("times", sixty, 0), 10 ** 30 - 1), ("row", (ten[1][0],) * 60),
                       nested_rows(9, ("times", ("times", ("row", ()), 1), 1)), ("times", ("times", "times", 1), 2),
                       ("row", (("times", ("times", "a", 1), 2),) * 3)):
            self.assertIs(need_script(script), script)

    def test_places(self):
        cases = [
            (None, 0), ("", 0), ("A", 0), ((), 0), (("row",), 0), (("row", "a"), 0), (("row", ["a"]), 0), (["row", ()], 0),
            (("row", (), ()), 0), (("rows", ()), 0), (("times", "a"), 0), (("times", "a", 1, 1), 0),
            (("times", "a", -1), 1), (("times", "a", 10 ** 30), 1), (("times", "a", True), 1), (("times", "a", "1"), 1),
            (("times", "A", -1), 0), (("times", ("row", ("a", "b")), None), 2), (("times", ("row", ()), None), 0),
            (("row", ("a", "b", "")), 2), (("row", ("a", ("row", ("b", None)), 5)), 2), (("row", ("a",) * 61), 0),
            (("row", ("a", ("row", ("b",) * 61), None)), 1), (("row", (None,) * 61), 0), (("row", ("a", ("times", "b", -1), None)), 2),
            (("times", ("times", ("times", "a", 1), 1), 1), 0), (("times", ("times", ("times", None, 1), 1), 1), 0),
            (("row", ("a", ("times", ("times", ("times", "b", 1), 1), 1))), 1), (nested_rows(11), 0),
            (("row", ("a", nested_rows(10))), 1), (("row", ("a", "b", nested_rows(9), nested_rows(10))), 3),
            (("times", ("times", nested_rows(11), None), None), 0), (("times", ("times", "a", None), "1"), 1),
            (("row", (("times", ("row", ("a", "b")), 1), ("times", ("row", ("a", "")), -1))), 3), ((None, ()), 0),
            (("times", ("a",), 1), 0), ((STRANGE, "a", 1), 0), (("row", (("row", ("a",)), STRANGE)), 1)]
        for value, place in cases:
            for call in (need_script, script_names, script_text):
                self.assertEqual(self.told(BadScript, "place", call, value), place)
        for value in OTHERS:
            if value != ((),):
                self.assertEqual(self.told(BadScript, "place", need_script, value), 0)

    def test_spoilt_ones(self):
        rng = random.Random(12)
        wrong = 0
        for _ in range(600):
            value = spoilt_script(rng, random_script(rng, 4))
            if is_script_slowly(value):
                self.assertIs(need_script(value), value)
            else:
                wrong += 1
                self.assertEqual(self.told(BadScript, "place", need_script, value), first_place(value)[0])
        self.assertGreater(wrong, 200)

    def test_names_done(self):
        self.assertEqual(script_names(("row", ("cut", ("times", "half", 3)))), ("cut", "half", "half", "half"))
        self.assertEqual(script_names(("row", ())), ())
        self.assertEqual(script_names(("times", "a", 0)), ())
        self.assertEqual(script_names(("times", ("row", ("a", "b")), 2)), ("a", "b") * 2)
        self.assertEqual(script_names(("times", ("row", ()), 10 ** 30 - 1)), ())
        self.assertEqual(script_names(("times", ("times", "a", 0), 10 ** 30 - 1)), ())
        self.assertEqual(script_names(("times", ("times", "a", 10 ** 30 - 1), 0)), ())
        self.assertEqual(script_names(("times", ("row", (("times", "a", 0), ("row", ()))), 10 ** 29)), ())
        self.assertEqual(script_names(("times", "a", 1000)), ("a",) * 1000)
        self.assertEqual(script_names(("times", ("row", ("a", "b")), 500)), ("a", "b") * 500)
        for script in (("times", "a", 1001), ("times", ("row", ("a", "b", "c")), 334), ("times", ("times", "a", 11), 91),
                       ("times", ("times", "a", 10 ** 30 - 1), 10 ** 30 - 1), ("row", (("times", "a", 1000), "b"))):
            self.assertEqual(self.told(TooGreat, "most", script_names, script), 1000)
        rng = random.Random(13)
        for _ in range(200):
            script = random_script(rng, 3)
            names = names_slowly(script)
            if names is None:
                self.assertEqual(self.told(TooGreat, "most", script_names, script), 1000)
            else:
                self.assertEqual(script_names(script), names)

    def test_books(self):
        for book in ((), (("a", HALF),), tuple(("a" * many, HALF) for many in range(1, 13)),
                     tuple((one + other, HALF) for one, other in itertools.product("abcde", "abcdefgh"))):
            self.assertIs(need_named_book(book), book)
        great = tuple((one + other, HALF) for one, other in itertools.product("abcde", "abcdefgh"))
        self.assertEqual(len(great), 40)
        for value in OTHERS + [great + (("z", HALF),), [("a", HALF)], (("a", HALF), None), (("a", HALF, HALF),), (("a",),),
                               (["a", HALF],), "ab", ("ab",), (("A", HALF), "ab")]:
            self.assertIsNone(self.told(BadName, "name", need_named_book, value))
        for value in NO_NAMES:
            self.assertIs(self.told(BadName, "name", need_named_book, (("b", HALF), (value, None), ("b", None))), value)
        self.assertEqual(self.told(BadName, "name", need_named_book, (("b", HALF), ("b", None))), "b")
        self.assertEqual(self.told(BadName, "name", need_named_book, (("b", HALF), ("c", APART), ("b", HALF))), "b")
        for value in OTHERS + [HALF[:2], list(HALF)]:
            self.assertEqual(self.told(BadDeed, "word", need_named_book, (("b", HALF), ("c", value), ("b", HALF))), "form")
        self.assertEqual(self.told(BadDeed, "word", need_named_book, (("b", (((0, ""),),) * 3), ("B", HALF))), "still")


def names_slowly(script):
    """The names that are done, or None if they are more than 1,000."""
    if isinstance(script, str):
        return (script,)
    if script[0] == "row":
        told = ()
        for each in script[1]:
            names = names_slowly(each)
            if names is None:
                # Names are told only where all of them are done.
                return None
            told += names
        return told if len(told) <= 1000 else None
    names = () if script[2] == 0 else names_slowly(script[1])
    if names is None or len(names) * script[2] > 1000:
        return None
    return names * script[2] if names else ()


def spoilt_script(rng, script):
    """The script with something else at some place."""
    if rng.random() < 0.4 or isinstance(script, str) or script[0] == "row" and not script[1]:
        return rng.choice((None, "", "A", ("row",), ("row", [script]), ("times", script, -1), ("times", script, "1"), 5,
                           ("times", ("times", script, 1), 1), ("row", (script,) * 61), ("row", ("a", script)), "a" * 13,
                           nested_rows(8, script), ("times", script), ("row", (script, "B"))))
    if script[0] == "times":
        return ("times", spoilt_script(rng, script[1]), rng.choice((script[2], 10 ** 30, 1)))
    at = rng.randrange(len(script[1]))
    return ("row", script[1][:at] + (spoilt_script(rng, script[1][at]),) + script[1][at + 1:])


def first_place(value, names=0, rows=0, times=0):
    """A pair: how many names are ahead of the first wrong thing, or None; and how many are passed."""
    if isinstance(value, str) and is_script_slowly(value):
        return None, names + 1
    if isinstance(value, tuple) and len(value) == 2 and value[0] == "row" and isinstance(value[1], tuple):
        if rows < 10 and len(value[1]) <= 60:
            for each in value[1]:
                wrong, names = first_place(each, names, rows + 1)
                if wrong is not None:
                    return wrong, names
            return None, names
    if isinstance(value, tuple) and len(value) == 3 and value[0] == "times" and times < 2:
        wrong, names = first_place(value[1], names, rows, times + 1)
        if wrong is not None:
            return wrong, names
        number = value[2]
        if isinstance(number, int) and not isinstance(number, bool) and 0 <= number < 10 ** 30:
            return None, names
    return names, names


class ParsingTest(Told):

    def look_at(self, call, told, text, error=None):
        """Looks at what a text is read as, or where it is refused."""
        place = grammar.wrong_place(told, text)
        if place is not None:
            self.assertEqual(self.refused(call, text), grammar.line_and_column(text, place), text)
            return False
        try:
            call(text)
        except BadText:
            self.fail(text)
        except error:
            pass
        return True

    def test_nets(self):
        rng = random.Random(21)
        told = grammar.net("")
        counts = {True: 0, False: 0}
        for many in (4, 8, 12, 16):
            text = net_text(random_net(rng, many))
            for spoilt in grammar.spoilt_texts(rng, text, 250):
                counts[self.look_at(parse_net, told, spoilt, BadNet)] += 1
        self.assertGreater(min(counts.values()), 20)
        for text, line, column in (
                ("", 0, 0), (" ", 0, 0), ("1", 0, 1), ("1 0 3 2", 0, 7), ("1 0 3 2\n", 1, 0), ("1 0 3\n", 0, 5), ("01", 0, 1),
                ("1 00", 0, 3), ("1000", 0, 3), ("1  ", 0, 2), ("1 0 3 2\n2 3 0\n", 1, 5), ("1 0 3 2\n2 3 0 1 4", 1, 7),
                ("1 0 3 2\n2 3 0 1\n2 3 0 1\n", 2, 7), ("1 0 3 2\n2 3 0 1\n2 3 0 1 ", 2, 7), ("1 0 3 2\n2 3 0 1\n2 3 0 ", 2, 6),
                ("a", 0, 0), ("-1", 0, 0), ("1 0 3 2\n\n", 1, 0), ("1 0 3 2\r", 0, 7), ("1 0 3 2 5\n1 2 3 4\n", 1, 7)):
            self.assertEqual(self.refused(parse_net, text), (line, column), text)

    def test_nets_of_many_flags(self):
        rng = random.Random(22)
        text = net_text(random_net(rng, 960))
        self.assertTrue(is_net(parse_net(text)))
        line = " ".join(["0"] * 960)
        self.assertEqual(self.told(BadNet, "word", parse_net, "\n".join([line] * 3)), "back")
        self.assertEqual(self.refused(parse_net, "\n".join([line + " 0"] * 3)), (0, len(line)))
        self.assertEqual(self.refused(parse_net, "\n".join([line, line + " 0", line])), (1, len(line)))
        self.assertEqual(self.refused(parse_net, "\n".join([line, line, line[:-2]])), (2, len(line) - 2))
        # By its form a net may have integers that are no flags, and any number of flags from 4 on.
        self.assertEqual(self.told(BadNet, "word", parse_net, "1 0 3 999\n2 3 0 1\n2 3 0 1"), "form")
        self.assertEqual(self.told(BadNet, "word", parse_net, "1 0 3 2 4\n2 3 0 1 4\n2 3 0 1 4"), "still")
        self.assertEqual(self.told(BadNet, "flag", parse_net, "1 0 3 2\n1 0 3 2\n1 0 3 2"), 0)

    def test_deeds(self):
        rng = random.Random(23)
        told = grammar.deed("")
        counts = {True: 0, False: 0}
        for _ in range(12):
            text = deed_text(random_deed(rng, 6))
            for spoilt in grammar.spoilt_texts(rng, text, 100):
                counts[self.look_at(parse_deed, told, spoilt, BadDeed)] += 1
        self.assertGreater(min(counts.values()), 20)
        for text, line, column in (
                ("", 0, 0), ("0", 0, 1), ("0:", 0, 2), ("0:0", 0, 3), ("0:0 0:1", 0, 7), ("0:0 0:1 ", 0, 8), ("00", 0, 1),
                ("0:0 0:1 0:2\n", 1, 0), ("0:0 0:1 0:2 ", 0, 11), ("0:0 0:1 0:2\n1", 1, 1), ("100", 0, 2), ("0:-0", 0, 3),
                ("0:3", 0, 2), ("0:0  ", 0, 4), ("-", 0, 0), ("0:0 0:1 0:2\n\n", 1, 0), (":", 0, 0)):
            self.assertEqual(self.refused(parse_deed, text), (line, column), text)
        long = "0:" + "01" * 30 + " 0:1 0:2"
        self.assertEqual(self.told(BadDeed, "word", parse_deed, long), "back")
        self.assertEqual(self.refused(parse_deed, "0:" + "01" * 30 + "0 0:1 0:2"), (0, 62))
        self.assertEqual(self.told(BadDeed, "word", parse_deed, "0:00 0:1 0:2"), "form")
        self.assertEqual(self.told(BadDeed, "word", parse_deed, "1:0 0:1 0:2"), "form")
        self.assertEqual(self.told(BadDeed, "word", parse_deed, "99:0 0:1 0:2"), "form")
        self.assertEqual(self.told(BadDeed, "word", parse_deed, "0:- 0:1 0:2"), "still")
        line = "0:0 0:1 0:2"
        self.assertEqual(self.told(BadDeed, "word", parse_deed, "\n".join([line] * 48)), "back")
        self.assertEqual(self.refused(parse_deed, "\n".join([line] * 49)), (47, 11))
        self.assertEqual(self.refused(parse_deed, "\n".join([line] * 48) + "\n"), (47, 11))
        great = patched_deed(rng, 48, 0)
        self.assertEqual(parse_deed(deed_text(great)), great)

    def test_scripts(self):
        rng = random.Random(24)
        counts = {True: 0, False: 0}
        for _ in range(60):
            text = script_text(random_script(rng, 4))
            for spoilt in grammar.spoilt_texts(rng, text, 40):
                right = self.look_at(parse_script, grammar.SCRIPT, spoilt)
                counts[right] += 1
                if right:
                    self.assertEqual(script_text(parse_script(spoilt)), spoilt)
        self.assertGreater(min(counts.values()), 100)
        for text, line, column in (
                ("", 0, 0), ("(", 0, 1), ("()", None, None), ("( ", 0, 1), ("(a", 0, 2), ("(a ", 0, 3), ("(a )", 0, 3), (")", 0, 0),
                ("a b", 0, 1), ("a" * 13, 0, 12), ("a" * 12, None, None), ("a*", 0, 2), ("a*0", None, None), ("a*00", 0, 3),
                ("a*01", 0, 3), ("a*1*2", None, None), ("a*1*2*3", 0, 5), ("a*" + "9" * 30, None, None), ("a*" + "9" * 31, 0, 32),
                ("(a*1*2 b*1*2)*3*4", None, None), ("a\n", 0, 1), ("A", 0, 0), ("a*-1", 0, 2), ("()()", 0, 2), ("(a b\n", 0, 4),
                ("(a " * 10 + "a" + ")" * 10, None, None), ("(a " * 10 + "(", 0, 30), ("(a a " * 11, 0, 50),
                ("(a*2 " * 10 + "()", 0, 50), ("((((((((((a) b) c) d) e) f) g) h) i) j)", None, None),
                ("(() " * 9 + "(a)" + ")" * 9, None, None), ("(() " * 10, 0, 37), ("(" * 10 + ")" * 10, None, None), ("(" * 11, 0, 10), ("(" * 10 + "a", 0, 11), ("(()" + "(", 0, 3),
                ("(" + " ".join(["a"] * 60) + ")", None, None), ("(" + " ".join(["a"] * 61), 0, 120), ("\n", 0, 0), ("a*1 ", 0, 3)):
            if line is None:
                self.assertEqual(script_text(parse_script(text)), text)
            else:
                self.assertEqual(self.refused(parse_script, text), (line, column), text)
        self.assertEqual(parse_script("(cut half*3)"), ("row", ("cut", ("times", "half", 3))))
        self.assertEqual(parse_script("()*7"), ("times", ("row", ()), 7))

    def test_no_strings(self):
        for call in (parse_net, parse_deed, parse_script):
            for value in OTHERS + [0, 1, ("a",), b"a"]:
                self.assertEqual(self.refused(call, value), (None, None))

    def test_all_short_texts(self):
        for many in range(5):
            for signs in itertools.product("a(*) 0", repeat=many):
                self.look_at(parse_script, grammar.SCRIPT, "".join(signs))
            for signs in itertools.product("0:-1 \n", repeat=many):
                self.look_at(parse_deed, grammar.deed(""), "".join(signs), BadDeed)
                self.look_at(parse_net, grammar.net(""), "".join(signs), BadNet)


if __name__ == "__main__":
    unittest.main()
