"""Tests of sheets and logs."""

import random
import unittest

import grammar
from common import OTHERS, random_joined_net, random_net, random_word, rewritten
from deed_common import APART, HOMELESS, NAMED, done_slowly, moved_slowly, patched_deed
from netsredrawn.errors import BadDeed, BadName, BadNet, BadScript, BadText, NetError, TooGreat
from netsredrawn.live import Board
from netsredrawn.logs import log_text, read_log
from netsredrawn.moving import renumbered
from netsredrawn.named import grid, ring, solid
from netsredrawn.nets import lead
from netsredrawn.parsing import parse_script
from netsredrawn.renamings import renaming
from netsredrawn.sheets import judged, sheet_entries
from netsredrawn.texts import deed_text, net_text
from test_live import board_of, drifting, random_address, state

SPHERE = ((1, 0, 3, 2), (2, 3, 0, 1), (2, 3, 0, 1))
SAME, FLIP, HALF, TWIN, MIDDLE, CUT = (NAMED[name] for name in ("same", "flip", "half", "twin", "middle", "cut"))


def dashed(text):
    return "\n".join("- " + line for line in text.split("\n"))


def entry(sort, name, thing):
    if sort == "net":
        thing = net_text(thing)
    elif sort == "deed":
        thing = deed_text(thing)
    return sort + " " + name + "\n" + dashed(thing)


ENTRIES = [("net", "ball", SPHERE), ("net", "ring", ring(3)), ("deed", "half", HALF), ("deed", "flip", FLIP),
           ("deed", "apart", APART), ("script", "halves", "half*3"), ("script", "turned", "(flip half flip)"),
           ("script", "none", "()"), ("script", "many", "half*1001"), ("script", "lost", "(half other)"),
           ("script", "hidden", "(half other*0)"), ("script", "torn", "(half apart)"), ("script", "kept", "(half apart*0)"),
           ("script", "sixty", "half*61"), ("deed", "twin", TWIN), ("script", "twins", "twin"), ("script", "flips", "flip*6"),
           ("net", "fine", done_slowly(HALF, SPHERE)), ("net", "great", ring(240)), ("script", "once", "half")]


def sheet(verdicts, entries=ENTRIES):
    return "\n".join([entry(*each) for each in entries] + list(verdicts))


class Told(unittest.TestCase):

    def told(self, error, attribute, call, *values):
        with self.assertRaises(error) as caught:
            call(*values)
        return getattr(caught.exception, attribute)

    def refused(self, call, text):
        with self.assertRaises(BadText) as caught:
            call(text)
        return caught.exception.line, caught.exception.column


class SheetsTest(Told):

    def verdict(self, line, entries=ENTRIES):
        told = judged(sheet([line], entries))
        self.assertEqual(len(told), 1)
        return told[0]

    def test_entries(self):
        told = sheet_entries(sheet(["whole half"]))
        self.assertEqual([(sort, name) for sort, name, _ in told], [(sort, name) for sort, name, _ in ENTRIES])
        for (sort, _, thing), (_, _, want) in zip(told, ENTRIES):
            self.assertEqual(thing, parse_script(want) if sort == "script" else want)
        self.assertEqual(sheet_entries("whole half"), ())
        self.assertEqual(judged("whole half\nwhole half"), (False, False))

    def test_whole(self):
        self.assertIs(self.verdict("whole half"), True)
        for name in ("apart", "other", "ring", "halves", "deed"):
            self.assertIs(self.verdict("whole " + name), False)
        self.assertIs(self.verdict("whole bare", [("deed", "bare", HOMELESS)]), False)

    def test_alike(self):
        for line, so in (("turned twins", True), ("twins turned", True), ("flips none", True), ("halves halves", True),
                         ("once twins", False), ("halves none", False), ("turned half", False), ("ball ball", False), ("lost lost", False),
                         ("hidden once", False), ("torn torn", False), ("kept once", True), ("sixty sixty", False),
                         ("many many", False), ("none other", False)):
            self.assertIs(self.verdict("alike " + line), so, line)

    def test_makes(self):
        for line, so in (("once ball fine", True), ("none ring ring", True), ("once ball ball", False), ("flips ball ball", True),
                         ("once ring fine", False), ("half ball fine", False), ("once fine ball", False), ("lost ball fine", False),
                         ("hidden ball fine", False), ("torn ball fine", False), ("kept ball fine", True), ("once great great", False),
                         ("many ball ball", False), ("once ball other", False), ("once other fine", False), ("once half fine", False),
                         ("flips great great", True), ("none great great", True)):
            self.assertIs(self.verdict("makes " + line), so, line)
        # What a deed that isn't whole makes is looked at, too.
        net = done_slowly(APART, SPHERE)
        entries = ENTRIES + [("net", "torned", done_slowly(APART, done_slowly(HALF, SPHERE)))]
        self.assertIs(self.verdict("makes torn ball torned", entries), True)
        self.assertEqual(len(net[0]), 8)

    def test_counts(self):
        corners, edges, faces = board_of(SPHERE, HALF, HALF, HALF).counts()
        for line, so in (("halves ball %d %d %d" % (corners, edges, faces), True),
                         ("halves ball %d %d %d" % (corners + 1, edges, faces), False),
                         ("halves ball %d %d %d" % (corners, edges + 1, faces), False),
                         ("halves ball %d %d %d" % (corners, edges, faces + 1), False),
                         ("none ring 3 3 2", True), ("none ring 3 3 3", False), ("none half 3 3 2", False), ("half ring 3 3 2", False),
                         ("flips ring 3 3 2", True), ("lost ring 3 3 2", False), ("sixty ring 3 3 2", False), ("many ring 3 3 2", False),
                         ("other ring 3 3 2", False), ("none other 3 3 2", False), ("kept ring 6 6 2", True)):
            self.assertIs(self.verdict("counts " + line), so, line)
        great = board_of(ring(3), *[HALF] * 60).counts()
        entries = ENTRIES + [("script", "most", "half*60")]
        self.assertIs(self.verdict("counts most ring " + " ".join(str(each) for each in great), entries), True)
        self.assertIs(self.verdict("counts sixty ring %d %d 2" % (3 * 2 ** 61, 3 * 2 ** 61), entries), False)
        torn = board_of(ring(3), HALF, APART).counts()
        self.assertIs(self.verdict("counts torn ring " + " ".join(str(each) for each in torn)), True)

    def test_dyes(self):
        for line, so in (("once 1 0", True), ("once 7 7", True), ("once 7 6", False), ("once 7 never", False), ("flips 5 5", True),
                         ("many 1 0", True), ("sixty 4 4", True), ("torn 0 0", False), ("kept 0 0", True), ("lost 0 0", False),
                         ("hidden 0 0", False), ("half 7 7", False), ("other 0 0", False)):
            self.assertIs(self.verdict("dyes " + line), so, line)
        never = next(deed for deed in (patched_deed(random.Random(seed), 3, 2) for seed in range(300)) if none_sign(deed))
        sign = none_sign(never)
        entries = [("deed", "never", never), ("script", "one", "never"), ("script", "two", "(never never)")]
        self.assertIs(self.verdict("dyes one %d never" % sign, entries), True)
        self.assertIs(self.verdict("dyes two %d never" % sign, entries), True)
        for other in range(8):
            self.assertIs(self.verdict("dyes one %d %d" % (sign, other), entries), False)
        self.assertIs(self.verdict("dyes one 0 0", entries), True)
        self.assertIs(self.verdict("dyes one 0 never", entries), False)

    def test_leads(self):
        rng = random.Random(1)
        net = random_net(rng, 20)
        entries = [("net", "net", net), ("deed", "half", HALF)]
        for _ in range(40):
            flag, word = rng.randrange(20), random_word(rng, 10)
            there = lead(net, flag, word)
            line = "leads net %d %s %d"
            self.assertIs(self.verdict(line % (flag, word or "-", there), entries), True)
            self.assertIs(self.verdict(line % (flag, word or "-", (there + 1) % 20), entries), False)
        for line in ("leads net 20 - 20", "leads net 0 - 20", "leads half 0 - 0", "leads other 0 - 0",
                     "leads net " + "9" * 30 + " - " + "9" * 30):
            self.assertIs(self.verdict(line, entries), False)
        self.assertIs(self.verdict("leads net 3 0220 3", entries), True)

    def test_many_verdicts(self):
        lines = ["whole half", "whole apart", "dyes once 7 7", "leads ball 0 0 1", "leads ball 0 0 2", "alike once once"]
        self.assertEqual(judged(sheet(lines)), (True, False, True, True, False, True))
        # More deeds than a book of names may have.
        entries = [("deed", "d" + chr(97 + at // 26) + chr(97 + at % 26), HALF if at else FLIP) for at in range(60)]
        entries += [("script", "s", "(daa dba daa)"), ("script", "t", "dcf"), ("net", "n", SPHERE)]
        self.assertEqual(judged(sheet(["alike s t", "makes t n n", "dyes t 7 7", "counts t n 4 2 2"], entries)),
                         (False, False, True, board_of(SPHERE, HALF).counts() == (4, 2, 2)))

    def test_names(self):
        for names, name in ((("a", "b", "a", "b"), "a"), (("a", "b", "b", "a"), "b"), (("a", "a", "a"), "a")):
            for sorts in (["net"] * 4, ["deed", "net", "script", "net"], ["script", "deed", "net", "deed"]):
                things = {"net": SPHERE, "deed": HALF, "script": "half"}
                text = sheet(["whole a"], [(sort, each, things[sort]) for sort, each in zip(sorts, names)])
                for call in (sheet_entries, judged):
                    self.assertEqual(self.told(BadName, "name", call, text), name)

    def test_wrong_things(self):
        bad_net = "net n\n- 1 0 3 2\n- 1 0 3 2\n- 1 0 3 2"
        bad_deed = "deed d\n- 0:- 0:1 0:2"
        good = entry("deed", "g", HALF)
        for call in (sheet_entries, judged):
            self.assertEqual(self.told(BadNet, "word", call, "\n".join([good, bad_net, bad_deed, "whole g"])), "apart")
            self.assertEqual(self.told(BadDeed, "word", call, "\n".join([good, bad_deed, bad_net, "whole g"])), "still")
            # A name that comes again is told ahead of what is no net; what can't be read ahead of both.
            self.assertEqual(self.told(BadName, "name", call, "\n".join([good, bad_net, good, "whole g"])), "g")
            self.assertEqual(self.refused(call, "\n".join([good, bad_net, good, "whole G"])), (10, 6))
            self.assertEqual(self.told(BadNet, "word", call, "net n\n- 1 0 3 2\n- 1 0 3 2\n- 1 0 3 9\nwhole n"), "form")
            self.assertEqual(self.told(BadDeed, "word", call, "deed d\n- 0:00 0:1 0:2\nwhole n"), "form")

    def test_places(self):
        for text, line, column in (
                ("", 0, 0), ("net", 0, 3), ("nest", 0, 2), ("w", 0, 1), ("whole ", 0, 6), ("whole half\n", 1, 0), ("whole half ", 0, 10),
                ("whole half\nnet", 1, 0), ("script s\n- half", 1, 6), ("script s\n- half\n", 2, 0), ("script s\n- half\n- half", 2, 0),
                ("script s\nhalf", 1, 0), ("script s\n-half", 1, 1), ("deed d\n- 0:0 0:1 0:2\n- 0:0 0:1 0:2\nwhole d", None, None),
                ("deed d\n- 0:0 0:1 0:2\n-", 2, 1), ("deed d\n- 0:0 0:1 0:2", 1, 13), ("net n\n- 1 0 3 2\n- 1 0 3 2\n- 1 0 3 2\n-", 4, 0),
                ("dyes s 8", 0, 7), ("dyes s 7 8", 0, 9), ("dyes s 7 n", 0, 10), ("dyes s 7 77", 0, 10), ("dyes s 7 never", None, None),
                ("leads n 0 - ", 0, 12), ("leads n 0 3", 0, 10), ("leads n 00", 0, 9), ("leads n 0 -1", 0, 11), ("counts s n 1 2 ", 0, 15),
                ("alike s", 0, 7), ("makes s n", 0, 9), ("counts s n 1 2 3 ", 0, 16), ("x", 0, 0), ("\n", 0, 0), ("de", 0, 2), ("dy", 0, 2),
                ("dx", 0, 1), ("makes s n " + "a" * 13, 0, 22), ("leads n " + "9" * 31, 0, 38), ("leads n 0 " + "01" * 30 + "0", 0, 70)):
            if line is None:
                self.assertEqual(len(judged(text)) if "deed" not in text else 1, 1)
            else:
                for call in (sheet_entries, judged):
                    self.assertEqual(self.refused(call, text), (line, column), text)
        line = "- 0:0 0:1 0:2"
        self.assertEqual(self.refused(judged, "\n".join(["deed d"] + [line] * 49)), (49, 0))
        self.assertEqual(self.refused(judged, "\n".join(["deed d"] + [line] * 48)), (48, 13))
        for value in OTHERS + [0, b"whole half"]:
            for call in (sheet_entries, judged):
                self.assertEqual(self.refused(call, value), (None, None))

    def test_spoilt_texts(self):
        rng = random.Random(2)
        told = grammar.sheet()
        counts = {True: 0, False: 0}
        texts = ["whole half", sheet(["whole half", "alike s t", "makes s n m"], ENTRIES[:1] + ENTRIES[2:3] + ENTRIES[5:7]),
                 sheet(["dyes s 7 never", "leads n 0 012 5", "dyes s 7 0", "counts s n 12 0 5"], ENTRIES[1:4]),
                 sheet(["leads n 0 - 5"], ENTRIES[6:8])]
        for text in texts:
            for spoilt in grammar.spoilt_texts(rng, text, 300, "wholedynvr"):
                place = grammar.wrong_place(told, spoilt)
                counts[place is None] += 1
                if place is not None:
                    for call in (sheet_entries, judged):
                        self.assertEqual(self.refused(call, spoilt), grammar.line_and_column(spoilt, place), spoilt)
                else:
                    try:
                        sheet_entries(spoilt)
                    except BadText:
                        self.fail(spoilt)
                    except (BadName, BadNet, BadDeed):
                        pass
        self.assertGreater(min(counts.values()), 50)


def none_sign(deed):
    from netsredrawn.homes import is_whole_deed
    from netsredrawn.signs import sign_table
    return next((sign for sign in range(8) if is_whole_deed(deed) and sign_table(deed)[sign] is None), 0)


def stepped_board(rng, steps):
    """A board on which steps of all kinds were done, some of them taken back."""
    board = Board(random_joined_net(rng, 4 * rng.randint(1, 3)))
    for _ in range(steps):
        kind = rng.randrange(8)
        if kind in (0, 1) or not board.record:
            board.enter(rng.choice((HALF, FLIP, CUT, APART, MIDDLE)))
        elif kind == 2:
            board.late(rng.randint(0, len(board.record)), rng.choice((HALF, FLIP)))
        elif kind == 3 and rng.random() < 0.5:
            board.strike(rng.randrange(len(board.record)))
        elif kind == 4 and len(board.record) > 1:
            try:
                board.melt(rng.randrange(len(board.record) - 1))
            except TooGreat:
                pass
        elif kind == 5 and board.pins:
            board.unpin(rng.choice(board.pins)[0])
        elif kind == 6 and CUT in board.record:
            moved = moved_slowly(renumbered(CUT, (2, 0, 1)), ["0", "", rewritten(random_word(rng, 4))])
            board.swap(board.record.index(CUT), moved, renaming(CUT, moved))
        else:
            name = next(name for name in "abcdefghijklmnopqrstuvwxyz" if name not in dict(board.pins))
            board.pin(name, random_address(rng, board))
    behind = state(board)[0]
    if behind and rng.random() < 0.6:
        board.undo(times=rng.randint(1, behind))
    return board


class LogsTest(Told):

    def test_read_back(self):
        rng = random.Random(11)
        undone = 0
        for _ in range(80):
            board = stepped_board(rng, rng.randint(0, 12))
            text = log_text(board)
            undone += "undone" in text
            again = read_log(text)
            self.assertTrue(again == board)
            self.assertEqual(state(again), state(board))
            self.assertEqual(log_text(again), text)
        self.assertGreater(undone, 10)

    def test_behind_every_step(self):
        rng = random.Random(12)
        board = stepped_board(rng, 14)
        while True:
            other = read_log(log_text(board))
            self.assertEqual(state(other), state(board))
            if state(board)[0] == 0:
                break
            board.undo()

    def test_lines(self):
        board = Board(SPHERE)
        first = "1 0 3 2\n2 3 0 1\n2 3 0 1"
        self.assertEqual(log_text(board), first)
        board.enter(HALF)
        board.pin("a", (3, 1))
        board.late(0, FLIP)
        board.melt(0)
        board.unpin("a")
        board.strike(0)
        lines = ["enter", "- 1:- 0:1 0:2", "- 0:- 1:0 1:2", "pin a 3.1", "late 0", "- 0:2 0:1 0:0", "melt 0", "unpin a", "strike 0"]
        self.assertEqual(log_text(board), "\n".join([first] + lines))
        board.undo(times=3)
        self.assertEqual(log_text(board), "\n".join([first] + lines[:6] + ["undone"] + lines[6:]))
        board.undo(times=3)
        self.assertEqual(log_text(board), "\n".join([first, "undone"] + lines))
        moved = moved_slowly(renumbered(HALF, (1, 0)), ["01", ""])
        board.again()
        pair = renaming(HALF, moved)
        board.swap(0, moved, pair)
        text = log_text(board)
        want = [first] + lines[:3] + ["swap 0"] + ["- " + line for line in deed_text(moved).split("\n")]
        want += ["= %d:%s" % (cell, word or "-") for cell, word in zip(*pair)]
        self.assertEqual(text, "\n".join(want))
        board.pin("b", (0, 1))
        self.assertEqual(log_text(board), text + "\npin b 0.1")
        self.assertEqual(state(read_log(log_text(board))), state(board))

    def test_twenty_thousand(self):
        # Pins fill the log up to the very last character.
        board = Board(ring(100))
        names = (one + other + third for one in "abcdefghij" for other in "abcdefghijklm" for third in "abcdefghijklmn")
        while 20000 - len(log_text(board)) > 38:
            board.pin(next(names), (0,))
        rest = 20000 - len(log_text(board))
        first = rest - 7 - 16
        self.assertTrue(4 <= first <= 12)
        board.pin("z" * first, (0,))
        self.assertEqual(20000 - len(log_text(board)), 16)
        board.pin("y" * 9, (0,))
        self.assertEqual(len(log_text(board)), 20000)
        self.assertEqual(state(read_log(log_text(board))), state(board))
        board.undo()
        board.pin("y" * 9, (10,))
        self.assertEqual(self.told(TooGreat, "most", log_text, board), 20000)
        # What is taken back counts as well.
        board.undo()
        self.assertEqual(self.told(TooGreat, "most", log_text, board), 20000)

    def test_steps_that_fail(self):
        first = net_text(SPHERE)
        enter = "enter\n" + dashed(deed_text(HALF))
        for lines, place in ((["strike 0"], 0), ([enter, "strike 1"], 1), ([enter, "melt 0"], 1), (["enter\n- 0:- 0:1 0:2"], 0),
                             (["pin a 4"], 0), (["pin a 0", "pin a 0"], 1), ([enter, "pin a 0"], 1), ([enter, "pin a 0.2"], 1),
                             (["unpin a"], 0), (["late 1\n" + dashed(deed_text(HALF))], 0), ([enter, "strike 0", "strike 0"], 2),
                             ([enter, "swap 0\n" + dashed(deed_text(HALF)) + "\n= 1:-\n= 0:-"], 1),
                             ([enter, "swap 0\n" + dashed(deed_text(HALF)) + "\n= 0:11\n= 1:-"], 1),
                             (["enter\n- 0:00 0:1 0:2", "strike 7"], 0), (["pin a 0", "undone", "unpin b"], 1),
                             (["undone", "strike 0"], 0), ([enter, "undone", "strike 0", "strike 0"], 2)):
            self.assertEqual(self.told(BadScript, "place", read_log, "\n".join([first] + lines)), place, lines)
        self.assertEqual(self.told(BadScript, "place", read_log, "\n".join([first] + [enter] * 61)), 60)
        self.assertEqual(self.told(BadNet, "word", read_log, "1 0 3 2\n1 0 3 2\n1 0 3 2\nstrike 0"), "apart")
        self.assertEqual(self.refused(read_log, "1 0 3 2\n1 0 3 2\n1 0 3 2\nstrike"), (3, 6))
        told = read_log("\n".join([first, enter, "swap 0\n" + dashed(deed_text(HALF)) + "\n= 0:-\n= 1:-"]))
        self.assertEqual(told.record, (HALF,))

    def test_places(self):
        first = "1 0 3 2\n2 3 0 1\n2 3 0 1"
        enter = "enter\n- 0:2 0:1 0:0"
        for more, line, column in (
                ("\n", 3, 0), ("\nenter", 3, 5), ("\nenter\n", 4, 0), ("\nenter ", 3, 5), ("\nundone", 3, 6), ("\nundone\n", 4, 0),
                ("\nundone\nundone", 4, 2), ("\nun", 3, 2), ("\nux", 3, 1), ("\nstrike 100", 3, 9), ("\nstrike 00", 3, 8), ("\nmelt", 3, 4),
                ("\nlate 0", 3, 6), ("\npin a", 3, 5), ("\npin a ", 3, 6), ("\npin a 0.", 3, 8), ("\npin a 1000", 3, 9), ("\npin a 0.1000", 3, 11), ("\npin a 0.00", 3, 9), ("\npin a 999.999.9999", 3, 17), ("\npin a 0 ", 3, 7),
                ("\npin " + "a" * 13, 3, 16), ("\nunpin a b", 3, 7), ("\n" + enter + "\n-", 5, 1), ("\n" + enter + "\n= ", 5, 0),
                ("\nswap 0\n- 0:2 0:1 0:0", 4, 13), ("\nswap 0\n- 0:2 0:1 0:0\n", 5, 0), ("\nswap 0\n- 0:2 0:1 0:0\n= 0:-\n=", 6, 0),
                ("\nswap 0\n- 0:2 0:1 0:0\n= 100", 5, 4), ("\nswap 0\n- 0:2 0:1 0:0\n= 0:3", 5, 4), (" ", 2, 7), ("\nstrike 0\nundone", 4, 6),
                ("\nundone\nstrike 0\nundone", 5, 2), ("\npin a " + ".".join(["0"] * 62), 3, 127),
                ("\nswap 0\n- 0:2 0:1 0:0\n= 0:" + "01" * 500 + "0", 5, 1004), ("\nenter\n" + "\n".join(["- 0:2 0:1 0:0"] * 49), 52, 0),
                ("\nswap 0\n- 0:2 0:1 0:0\nstrike 0", 5, 0)):
            self.assertEqual(self.refused(read_log, first + more), (line, column), more)
        for value in OTHERS + [0, first.encode()]:
            self.assertEqual(self.refused(read_log, value), (None, None))
        # An address of 61 integers, a word of 1,000 characters.
        self.assertEqual(self.told(BadScript, "place", read_log, first + "\npin a " + ".".join(["0"] * 61)), 0)
        self.assertEqual(self.told(BadScript, "place", read_log, first + "\n" + enter + "\nswap 0\n- 0:2 0:1 0:0\n= 0:" + "01" * 500), 1)

    def test_spoilt_texts(self):
        rng = random.Random(13)
        told = grammar.log()
        counts = {True: 0, False: 0}
        for _ in range(14):
            board = stepped_board(rng, rng.randint(1, 7))
            if max([len(deed[0]) for deed in board.record] or [0]) > 4:
                continue
            text = log_text(board)
            for spoilt in grammar.spoilt_texts(rng, text, 120, "undoe"):
                place = grammar.wrong_place(told, spoilt)
                counts[place is None] += 1
                if place is not None:
                    self.assertEqual(self.refused(read_log, spoilt), grammar.line_and_column(spoilt, place), spoilt)
                else:
                    try:
                        board = read_log(spoilt)
                    except BadText:
                        self.fail(spoilt)
                    except NetError:
                        continue
                    self.assertEqual(state(read_log(log_text(board))), state(board))
        self.assertGreater(min(counts.values()), 40)

    def test_great_boards(self):
        board = board_of(grid(2, 2), *[HALF] * 60)
        board.pin("end", (31,) + (1,) * 60)
        board.melt(58)
        again = read_log(log_text(board))
        self.assertEqual(state(again), state(board))
        self.assertEqual(again.counts(), board.counts())
        deed, _ = drifting("0121", 0)
        other, words = drifting("0121", 40)
        board = board_of(solid("tetra"), deed)
        board.swap(0, other, (tuple(range(48)), tuple(words)))
        self.assertEqual(state(read_log(log_text(board))), state(board))


if __name__ == "__main__":
    unittest.main()
