"""Tests of valued: what scripts do with a book of names."""

import random
import unittest

from common import NO_INTEGERS, OTHERS, random_net
from deed_common import APART, HOMELESS, NAMED, after_slowly, done_slowly, fault_slowly, moved_slowly, patched_deed
from netsredrawn.errors import BadDeed, BadName, BadNet, BadScript, BadSign, NotWhole, TooGreat
from netsredrawn.homes import is_whole_deed
from netsredrawn.least import least_deed
from netsredrawn.nets import beside
from netsredrawn.parsing import parse_script
from netsredrawn.scripts import script_names
from netsredrawn.sequence import script_of
from netsredrawn.signs import sign_table
from netsredrawn.valued import are_alike_scripts, script_cells, script_done, script_dye, script_least

SPHERE = ((1, 0, 3, 2), (2, 3, 0, 1), (2, 3, 0, 1))
SAME, HALF, FLIP = NAMED["same"], NAMED["half"], NAMED["flip"]
BOOK = tuple((name, NAMED[name]) for name in sorted(NAMED)) + (("apart", APART), ("homeless", HOMELESS))
DEEDS = dict(BOOK)
NO_NAMES = ["A", "", "a" * 13, None, ("a",)]


class Told(unittest.TestCase):

    def told(self, error, attribute, call, *values):
        with self.assertRaises(error) as caught:
            call(*values)
        return getattr(caught.exception, attribute)


def small_script(rng, rows, names, times=0):
    kind = rng.random()
    if times < 2 and kind < 0.3:
        return ("times", small_script(rng, rows, names, times + 1), rng.choice((0, 1, 1, 2, 3)))
    if rows and kind < 0.75:
        return ("row", tuple(small_script(rng, rows - 1, names) for _ in range(rng.choice((0, 1, 2, 2)))))
    return rng.choice(names)


WHOLE = ["same", "flip", "twist", "wheel", "unwheel", "half", "twin", "middle", "cut"]


class ValuedTest(Told):

    def test_cells(self):
        rng = random.Random(1)
        for _ in range(200):
            script = small_script(rng, 3, sorted(DEEDS))
            try:
                names = script_names(script)
            except TooGreat:
                continue
            want = 1
            for name in names:
                want *= len(DEEDS[name][0])
            if want > 10 ** 60:
                self.assertEqual(self.told(TooGreat, "most", script_cells, script, BOOK), 10 ** 60)
            else:
                self.assertEqual(script_cells(script, BOOK), want)
        self.assertEqual(script_cells(("row", ()), ()), 1)
        self.assertEqual(script_cells(parse_script("half*100"), BOOK), 2 ** 100)
        self.assertEqual(script_cells(parse_script("flip*" + "9" * 30 + "*" + "9" * 30), BOOK), 1)
        self.assertEqual(script_cells(parse_script("(half*" + "9" * 30 + ")*0"), BOOK), 1)
        self.assertEqual(script_cells(parse_script("half*0*" + "9" * 30), BOOK), 1)
        self.assertEqual(script_cells(parse_script("(half*" + "9" * 30 + "*0 cut)"), BOOK), 3)

    def test_cells_at_the_limit(self):
        ten = patched_deed(random.Random(2), 10, 0)
        book = (("ten", ten), ("half", HALF), ("same", SAME))
        self.assertEqual(script_cells(("times", "ten", 60), book), 10 ** 60)
        self.assertEqual(script_cells(("row", (("times", "ten", 30), ("times", "same", 10 ** 20), ("times", "ten", 30))), book),
                         10 ** 60)
        for script in ("(ten*60 half)", "ten*61", "(half ten*60)", "ten*" + "9" * 30, "half*200", "ten*30*3", "half*" + "9" * 30 + "*2"):
            self.assertEqual(self.told(TooGreat, "most", script_cells, parse_script(script), book), 10 ** 60)
        self.assertEqual(script_cells(parse_script("half*199"), book), 2 ** 199)
        self.assertEqual(script_cells(parse_script("(ten*61*0 half)"), book), 2)

    def test_done(self):
        rng = random.Random(3)
        counts = {True: 0, False: 0}
        for _ in range(150):
            script = small_script(rng, 3, sorted(DEEDS))
            net = random_net(rng, 4 * rng.randint(1, 3))
            want = net
            for name in script_names(script):
                want = done_slowly(DEEDS[name], want) if want and len(want[0]) * len(DEEDS[name][0]) <= 960 else None
            counts[want is None] += 1
            if want is None:
                self.assertEqual(self.told(TooGreat, "most", script_done, script, BOOK, net), 960)
            else:
                self.assertEqual(script_done(script, BOOK, net), want)
        self.assertGreater(min(counts.values()), 5)
        self.assertEqual(script_done(("row", ()), (), SPHERE), SPHERE)
        self.assertEqual(script_done(("times", "flip", 1000), BOOK, SPHERE), SPHERE)
        self.assertEqual(script_done(("times", "half", 0), BOOK, SPHERE), SPHERE)
        great = random_net(rng, 960)
        self.assertEqual(script_done(("times", "flip", 3), BOOK, great), (great[2], great[1], great[0]))
        self.assertEqual(self.told(TooGreat, "most", script_done, "half", BOOK, great), 960)
        parted = beside(SPHERE, SPHERE)
        self.assertEqual(script_done("half", BOOK, parted), done_slowly(HALF, parted))
        # More than 1,000 deeds are told ahead of too many flags.
        self.assertEqual(self.told(TooGreat, "most", script_done, ("times", "half", 1001), BOOK, great), 1000)
        self.assertEqual(self.told(TooGreat, "most", script_done, ("times", "half", 1000), BOOK, great), 960)

    def test_least(self):
        rng = random.Random(4)
        counts = {True: 0, False: 0}
        for _ in range(200):
            script = small_script(rng, 3, WHOLE)
            cells = script_cells(script, BOOK) if script_names(script) else 1
            counts[cells > 48] += 1
            if cells > 48:
                self.assertEqual(self.told(TooGreat, "most", script_least, script, BOOK), 48)
                continue
            told = SAME
            for name in script_names(script):
                told = least_deed(after_slowly(told, NAMED[name]))
            self.assertEqual(script_least(script, BOOK), told)
        self.assertGreater(min(counts.values()), 3)
        for text in ("(half*4 cut)", "(cut half*4)", "(half*3 cut middle)"):
            script = parse_script(text)
            self.assertEqual(script_cells(script, BOOK), 48)
            self.assertEqual(script_least(script, BOOK),
                             least_deed(script_of(tuple(NAMED[name] for name in script_names(script)))))
        self.assertEqual(script_least("half", BOOK), least_deed(HALF))
        self.assertEqual(script_least(("times", "half", 5), BOOK), least_deed(script_of((HALF,) * 5)))
        self.assertEqual(self.told(TooGreat, "most", script_least, ("times", "half", 6), BOOK), 48)
        self.assertEqual(script_least(("times", ("times", "half", 10 ** 30 - 1), 0), BOOK), SAME)
        self.assertEqual(script_least(parse_script("(half*" + "9" * 30 + ")*0"), BOOK), SAME)

    def test_turns_done_very_often(self):
        for name in ("same", "flip", "twist", "spin", "wheel", "unwheel"):
            once = {}
            deed = SAME
            for times in range(12):
                once[times] = least_deed(deed)
                deed = after_slowly(deed, NAMED[name])
            for times in list(range(12)) + [10 ** 29 + rest for rest in range(6)]:
                self.assertEqual(script_least(("times", name, times), BOOK), once[times % 6])
                both = ("times", ("times", name, times), 10 ** 30 - 2)
                self.assertEqual(script_least(both, BOOK), once[times * (10 ** 30 - 2) % 6])

    def test_long_words(self):
        rng = random.Random(5)
        cases = {60: 0, None: 0}
        while min(cases.values()) < 2:
            deed = patched_deed(rng, 24, 8)
            if not is_whole_deed(deed):
                continue
            book = (("deed", deed), ("half", HALF), ("same", SAME))
            try:
                least = least_deed(deed)
            except TooGreat:
                least = None
            cases[60 if least is None else None] += 1
            if least is None:
                self.assertEqual(self.told(TooGreat, "most", script_least, "deed", book), 60)
                self.assertEqual(self.told(TooGreat, "most", script_least, ("row", ("deed", ("times", "half", 0))), book), 60)
                # Too many cells are told ahead of it.
                self.assertEqual(self.told(TooGreat, "most", script_least, ("row", ("deed", "half", "half")), book), 48)
                self.assertEqual(script_least(("times", "deed", 0), book), SAME)
                self.assertEqual(self.told(TooGreat, "most", are_alike_scripts, "same", "deed", book), 60)
                self.assertEqual(self.told(TooGreat, "most", are_alike_scripts, "deed", ("times", "half", 6), book), 60)
                self.assertEqual(self.told(TooGreat, "most", are_alike_scripts, ("times", "half", 6), "deed", book), 48)
            else:
                self.assertEqual(script_least("deed", book), least)

    def test_an_after_with_long_words(self):
        # Each least deed is short, but what they make one after another is not.
        rng = random.Random(6)
        counts = {}
        while len(counts) < 2 or min(counts.values()) < 2:
            deed = patched_deed(rng, 20, 8)
            least = least_or_none(deed) if is_whole_deed(deed) else None
            if least is None:
                continue
            for name in ("twist", "wheel"):
                for row, both in ((("deed", name), after_slowly(least, NAMED[name])),
                                  ((name, "deed"), after_slowly(NAMED[name], least))):
                    book = (("deed", deed), (name, NAMED[name]))
                    want = least_or_none(both) if fault_slowly(both) is None else None
                    counts[want is None] = counts.get(want is None, 0) + 1
                    if want is None:
                        self.assertEqual(self.told(TooGreat, "most", script_least, ("row", row), book), 60)
                    else:
                        self.assertEqual(script_least(("row", row), book), want)

    def test_alike(self):
        self.assertIs(are_alike_scripts(parse_script("(flip half flip)"), "twin", BOOK), True)
        self.assertIs(are_alike_scripts("half", "twin", BOOK), False)
        self.assertIs(are_alike_scripts(parse_script("(flip middle)"), "middle", BOOK), True)
        self.assertIs(are_alike_scripts(parse_script("(twist flip)*3"), parse_script("()"), BOOK), True)
        self.assertIs(are_alike_scripts("half", "cut", BOOK), False)
        moved = (("half", HALF), ("moved", moved_slowly(HALF, ["01", "2"])))
        self.assertIs(are_alike_scripts("half", "moved", moved), True)
        rng = random.Random(7)
        alike = 0
        for _ in range(80):
            scripts = [small_script(rng, 2, WHOLE) for _ in range(2)]
            if all(script_cells(script, BOOK) <= 24 for script in scripts):
                told = are_alike_scripts(scripts[0], scripts[1], BOOK)
                alike += told
                least = [least_deed(script_of(tuple(NAMED[name] for name in script_names(script)))) for script in scripts]
                self.assertIs(told, least[0] == least[1])
        self.assertGreater(alike, 3)

    def test_dyes(self):
        rng = random.Random(8)
        for _ in range(60):
            script = small_script(rng, 3, WHOLE)
            if script_cells(script, BOOK) <= 24:
                table = sign_table(script_of(tuple(NAMED[name] for name in script_names(script))))
                self.assertEqual(tuple(script_dye(script, BOOK, sign) for sign in range(8)), table)
        for _ in range(40):
            names = [rng.choice(WHOLE) for _ in range(rng.randint(1, 3))]
            times = rng.choice((0, 1, 2, 3, 5, 12))
            for sign in range(8):
                told = sign
                for name in reversed(names * times):
                    told = None if told is None else sign_table(NAMED[name])[told]
                self.assertEqual(script_dye(("times", ("row", tuple(names)), times), BOOK, sign), told)
        # No limit: many times as often, told by how the tables come again.
        for name in WHOLE:
            row = [tuple(range(8))]
            for _ in range(30):
                table = sign_table(NAMED[name])
                row.append(tuple(None if told is None else row[-1][told] for told in table))
            for times in (10 ** 30 - 1, 10 ** 29, 2 ** 90):
                period = next(step for step in range(1, 15) if row[10 + step] == row[10])
                want = row[10 + (times - 10) % period]
                self.assertEqual(tuple(script_dye(("times", name, times), BOOK, sign) for sign in range(8)), want)
                self.assertEqual(script_dye(("times", ("times", name, times), 1), BOOK, 7), want[7])

    def test_dyes_that_never_come(self):
        rng = random.Random(9)
        none = 0
        while none < 20:
            deed = patched_deed(rng, rng.randint(1, 5), 3)
            if is_whole_deed(deed):
                table = sign_table(deed)
                book = (("deed", deed), ("flip", FLIP))
                for sign in range(8):
                    want = None if table[sign] is None else table[table[sign]]
                    self.assertEqual(script_dye(("times", "deed", 2), book, sign), want)
                    flipped = (0, 4, 2, 6, 1, 5, 3, 7)
                    self.assertEqual(script_dye(("row", ("deed", "flip")), book, sign), table[flipped[sign]])
                    want = None if table[sign] is None else flipped[table[sign]]
                    self.assertEqual(script_dye(("row", ("flip", "deed")), book, sign), want)
                    none += want is None

    def test_wrong_values(self):
        calls = [(script_cells, ()), (script_done, (None,)), (script_least, ()), (script_dye, (None,)),
                 (lambda script, book: are_alike_scripts(script, "half", book), ()),
                 (lambda script, book: are_alike_scripts("half", script, book), ())]
        for call, rest in calls:
            for value in (None, ("row", ["a"]), "A", ("times", "half", -1)):
                self.assertIn(self.told(BadScript, "place", call, value, None, *rest), (0, 1))
            for value in OTHERS:
                if value != ():
                    self.assertIsNone(self.told(BadName, "name", call, "other", value, *rest))
            self.assertEqual(self.told(BadName, "name", call, "other", (("half", HALF), ("half", None)), *rest), "half")
            self.assertEqual(self.told(BadDeed, "word", call, "other", (("half", HALF), ("cut", None)), *rest), "form")
            for script, name in (("other", "other"), (("times", "other", 0), "other"), (("row", ("cut", "b", "a")), "b"),
                                 (("row", (("times", ("row", ("half", "c")), 0), "a")), "c")):
                self.assertEqual(self.told(BadName, "name", call, script, BOOK, *rest), name)
        self.assertEqual(self.told(BadScript, "place", are_alike_scripts, "half", None, None), 0)
        self.assertEqual(self.told(BadName, "name", are_alike_scripts, "a", "b", BOOK), "a")
        self.assertEqual(self.told(BadName, "name", are_alike_scripts, "apart", "b", BOOK), "b")
        for value in OTHERS + [SPHERE[:2]]:
            self.assertEqual(self.told(BadNet, "word", script_done, ("times", "half", 1001), BOOK, value), "form")
        for value in NO_INTEGERS + [-1, 8]:
            self.assertIs(self.told(BadSign, "value", script_dye, "apart", BOOK, value), value)

    def test_whole_ones(self):
        for name in ("apart", "homeless"):
            for script in (name, ("row", ("half", name)), ("times", name, 1), ("row", (("times", "half", 10), name))):
                for call in (script_least, lambda each, book: script_dye(each, book, 0),
                             lambda each, book: are_alike_scripts(each, "half", book),
                             lambda each, book: are_alike_scripts(("times", "half", 10), each, book)):
                    with self.assertRaises(NotWhole):
                        call(script, BOOK)
                script_cells(script, BOOK)
            for script in (("times", name, 0), ("row", (("times", ("row", ("half", name)), 0),)), ("times", ("times", name, 5), 0),
                           ("times", ("times", name, 0), 5)):
                self.assertEqual(script_least(script, BOOK), SAME)
                self.assertEqual(script_dye(script, BOOK, 5), 5)
                self.assertIs(are_alike_scripts(script, ("row", ()), BOOK), True)
        self.assertEqual(script_done("apart", BOOK, SPHERE), done_slowly(APART, SPHERE))
        # A deed in the book that isn't whole and isn't done is no matter.
        self.assertEqual(script_least("half", BOOK), least_deed(HALF))


def least_or_none(deed):
    try:
        return least_deed(deed)
    except TooGreat:
        return None


if __name__ == "__main__":
    unittest.main()
