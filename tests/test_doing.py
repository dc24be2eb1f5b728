"""Tests of doing, homes, moving, broken, makers and sequence."""

import random
import unittest

from common import NO_INTEGERS, OTHERS, STRANGE, every_net, led, random_net, random_word, rewritten
from deed_common import (
    APART, HOMELESS, NAMED, TWOFOLD, TWOFOLD_OF_SIX, after_slowly, done_slowly, fault_slowly, few_gathered,
    moved_slowly, one_cell, patched_deed, random_deed, walked_slowly)
from netsredrawn.broken import breaking_net
from netsredrawn.cellwebs import home_walks, own_table
from netsredrawn.deeds import need_deed, rule_broken
from netsredrawn.doing import done, flag_done
from netsredrawn.errors import (
    BadDeed, BadFlag, BadName, BadNet, BadNumber, BadScript, BadWord, NotWhole, TooGreat)
from netsredrawn.folding import folded, lot_table_of
from netsredrawn.homes import homes, is_whole_deed, need_whole, own_lot
from netsredrawn.lots import generators, holds, need_table
from netsredrawn.makers import NAMES, deed_named
from netsredrawn.moving import moved, renumbered
from netsredrawn.nets import is_joined, lead, need_net
from netsredrawn.rounds import euler_number, rounds
from netsredrawn.sequence import after, many_times, script_of
from netsredrawn.shapes import are_alike, is_likeness
from netsredrawn.turns import turn_of
from netsredrawn.walks import loops, walked

HALF, CUT, MIDDLE, SAME = (NAMED[name] for name in ("half", "cut", "middle", "same"))
SPHERE = ((1, 0, 3, 2), (2, 3, 0, 1), (2, 3, 0, 1))
ALL_WORDS = ((0,), (0,), (0,))


def cells_apart(many, *words):
    """A deed of so many cells, each with the steps of one."""
    return tuple(tuple((cell, word) for cell in range(many)) for word in words)


def breaks(made, flag):
    """Whether a triple of tuples breaks at a flag."""
    if any(row[flag] == flag for row in made):
        return True
    there = led(made, flag, "02")
    return there == flag or there != led(made, flag, "20")


class Case(unittest.TestCase):

    def told(self, error, attribute, call, *values):
        with self.assertRaises(error) as caught:
            call(*values)
        return getattr(caught.exception, attribute)

    def bad_deeds(self, call):
        """A call, with a deed alone, tells each value that is none."""
        for value in OTHERS + [(), list(SAME), HALF[:2], one_cell("0", "1", "3"), one_cell("0", "1", "20"),
                               one_cell("0", True, "2"), "012", 3, ((0, "0"), (0, "1"), (0, "2"))]:
            self.assertEqual(self.told(BadDeed, "word", call, value), "form")
        for deed, fault in ((one_cell("01", "1", "2"), ("back", 0)), (one_cell("0", "1", "1"), ("square", 0)),
                            (one_cell("0", "1", "0"), ("apart", 0)), (one_cell("0", "", "2"), ("still", 0))):
            self.assertEqual((self.told(BadDeed, "word", call, deed), self.told(BadDeed, "cell", call, deed)), fault)


class DoingTest(Case):

    def test_done_flag_by_flag(self):
        rng = random.Random(1)
        deeds = list(NAMED.values()) + [APART, HOMELESS, TWOFOLD] + [random_deed(rng) for _ in range(30)]
        deeds += [patched_deed(rng, rng.randint(1, 8), 6) for _ in range(30)]
        for deed in deeds:
            for net in [SPHERE, random_net(rng, 8), random_net(rng, 24)]:
                made = done(deed, net)
                self.assertEqual(made, done_slowly(deed, net))
                self.assertIs(need_net(made), made)
                for flag in rng.sample(range(len(made[0])), 4):
                    for change in range(3):
                        self.assertEqual(flag_done(deed, net, flag, change), made[change][flag])

    def test_read_back_with_lead(self):
        rng = random.Random(2)
        for _ in range(100):
            deed, net = patched_deed(rng, rng.randint(1, 6), 5), random_net(rng, 16)
            made, many = done(deed, net), len(deed[0])
            flag, cell, walk = rng.randrange(16), rng.randrange(many), random_word(rng, 12)
            there, word = walked(deed, cell, walk)
            self.assertEqual(lead(made, flag * many + cell, walk), lead(net, flag, word) * many + there)

    def test_same_and_small_ones(self):
        self.assertEqual(done(SAME, SPHERE), SPHERE)
        self.assertEqual(done(NAMED["flip"], SPHERE), SPHERE[::-1])
        self.assertEqual(done(HALF, SPHERE)[0], (1, 0, 3, 2, 5, 4, 7, 6))

    def test_limits(self):
        rng = random.Random(3)
        great = random_net(rng, 960)
        self.assertEqual(done(SAME, great), great)
        self.assertEqual(len(done(HALF, random_net(rng, 480))[0]), 960)
        self.assertEqual(self.told(TooGreat, "most", done, HALF, random_net(rng, 484)), 960)
        many = cells_apart(48, "0", "1", "2")
        self.assertEqual(len(done(many, random_net(rng, 20))[0]), 960)
        self.assertEqual(self.told(TooGreat, "most", done, many, random_net(rng, 24)), 960)
        deed = patched_deed(rng, 48, 14)
        for _ in range(300):
            flag, change = rng.randrange(960 * 48), rng.randrange(3)
            there, word = deed[change][flag % 48]
            self.assertEqual(flag_done(deed, great, flag, change), led(great, flag // 48, word) * 48 + there)
        self.assertEqual(flag_done(deed, great, flag_done(deed, great, 46079, 1), 1), 46079)
        self.assertEqual(self.told(BadFlag, "flag", flag_done, deed, great, 46080, 1), 46080)

    def test_wrong_values(self):
        self.bad_deeds(lambda deed: done(deed, SPHERE))
        self.bad_deeds(lambda deed: flag_done(deed, None, None, None))
        for value in OTHERS + [SPHERE[:2], list(SPHERE), ((1, 0), (1, 0), (1, 0)), (SPHERE[0], [2, 3, 0, 1], SPHERE[2])]:
            self.assertEqual(self.told(BadNet, "word", done, HALF, value), "form")
            self.assertEqual(self.told(BadNet, "word", flag_done, HALF, value, None, None), "form")
        for value in NO_INTEGERS + [-1, 8, (0,)]:
            self.assertIs(self.told(BadFlag, "flag", flag_done, HALF, SPHERE, value, None), value)
        for value in NO_INTEGERS + [-1, 3]:
            self.assertIs(self.told(BadNumber, "value", flag_done, HALF, SPHERE, 0, value), value)


class HomesTest(Case):

    def deeds(self, seed):
        rng = random.Random(seed)
        found = list(NAMED.values()) + [TWOFOLD, TWOFOLD_OF_SIX, APART, HOMELESS]
        found += [random_deed(rng, 24) for _ in range(40)]
        return found + [patched_deed(rng, rng.randint(1, 9), rng.randint(0, 5)) for _ in range(150)]

    def test_homes_step_by_step(self):
        kinds = {True: 0, False: 0}
        for deed in self.deeds(4):
            told = homes(deed)
            kinds[told is not None] += 1
            self.assertIs(is_whole_deed(deed), told is not None)
            if told is None:
                self.assertRaises(NotWhole, need_whole, deed)
                continue
            self.assertIs(need_whole(deed), deed)
            self.assertEqual(len(told), 3)
            for sign, walk in zip("012", told):
                self.assertEqual(walk, rewritten(walk))
                self.assertEqual(walked_slowly(deed, 0, walk), (0, sign))
        self.assertGreater(min(kinds.values()), 30)

    def test_whole_exactly_if_all_are_gathered(self):
        # Whole: short walks gather the three changes. Not whole: a net whose image is no joined net.
        rng = random.Random(5)
        for deed in self.deeds(6):
            if len(deed[0]) > 9:
                continue
            found = few_gathered(deed, 0, 5)
            reached = len(set(walked_slowly(deed, 0, random_word(rng, 60))[0] for _ in range(60)))
            if all(sign in found for sign in "012"):
                self.assertIs(is_whole_deed(deed), reached == len(deed[0]))
            if is_whole_deed(deed):
                self.assertTrue(all(sign in few_gathered(deed, 0, 11) for sign in "012"))
                net = random_net(rng, 12)
                if is_joined(net):
                    self.assertTrue(is_joined(done(deed, net)))

    def test_not_whole(self):
        self.assertIsNone(homes(APART))
        self.assertIsNone(homes(HOMELESS))
        self.assertFalse(is_whole_deed(cells_apart(2, "0", "1", "2")))
        self.assertFalse(is_whole_deed(one_cell("0", "12121", "2")))
        self.assertFalse(is_whole_deed(one_cell("0", "101", "2")))
        self.assertTrue(is_whole_deed(one_cell("101", "1", "121")))

    def test_deeds_of_one_cell(self):
        # [25]: whole exactly if a turn and a word tell them.
        rng = random.Random(7)
        kinds = {True: 0, False: 0}
        for _ in range(400):
            mover = random_word(rng, 6)
            words = rng.choice((("0", "1", "2"), ("2", "1", "0"), ("02", "1", "2"), ("0", "1", "02"), ("2", "1", "02"),
                                ("02", "1", "0"), ("0", rng.choice(("12121", "10121", "101", "0210212", "010")), "2")))
            deed = one_cell(*(rewritten(mover[::-1] + word + mover) for word in words))
            if fault_slowly(deed) is None:
                whole = turn_of(tuple(row[0][1] for row in deed)) is not None
                kinds[whole] += 1
                self.assertIs(is_whole_deed(deed), whole)
        self.assertGreater(min(kinds.values()), 20)
        mover = ("1" + "02") * 9 + "12"
        deed = one_cell(*(rewritten(mover[::-1] + word + mover) for word in "012"))
        self.assertGreater(max(len(row[0][1]) for row in deed), 56)
        for sign, walk in zip("012", homes(deed)):
            self.assertEqual(walked(deed, 0, walk), (0, sign))

    def test_great_ones(self):
        rng = random.Random(8)
        whole = 0
        for most in (3, 3, 4, 4, 5, 6, 8):
            for _ in range(12):
                deed = patched_deed(rng, 48, most)
                told = homes(deed)
                if told is not None:
                    whole += 1
                    for sign, walk in zip("012", told):
                        self.assertEqual(walked(deed, 0, walk), (0, sign))
        self.assertGreater(whole, 10)
        many = many_times(CUT, 3)
        self.assertEqual([walked(many, 0, walk) for walk in homes(many)], [(0, "0"), (0, "1"), (0, "2")])
        self.assertLess(max(len(walk) for walk in home_walks(many)), 400)

    def test_own_lot(self):
        rng = random.Random(9)
        for deed in self.deeds(10):
            cell = rng.randrange(len(deed[0]))
            table = own_lot(deed, cell)
            words = tuple(word for _, word in loops(deed, cell))
            if len(words) <= 12 and all(len(word) <= 100 for word in words):
                self.assertEqual(table, folded(words))
            for _ in range(10):
                walk = random_word(rng, 14)
                there, word = walked_slowly(deed, cell, walk)
                if there == cell:
                    self.assertTrue(holds(table, word))
            if is_whole_deed(deed):
                self.assertEqual(table, ALL_WORDS)
            elif len(deed[0]) < 5 and len(generators(table)) < 6:
                found = few_gathered(deed, cell, 14)
                for word in generators(table):
                    if len(word) < 6:
                        self.assertIn(word, found)
        self.assertEqual(own_lot(APART, 1), folded(("101", "1", "121")))
        self.assertEqual(own_lot(HOMELESS, 1), folded(("1", "2")))

    def test_own_lot_that_is_too_great(self):
        rng = random.Random(11)

        def great(squares, length):
            # Squares of four cells, joined by long words that go apart soon.
            rows = [[None] * (4 * squares) for _ in range(3)]
            for cell in range(4 * squares):
                rows[0][cell], rows[2][cell] = (cell ^ 1, ""), (cell ^ 2, "")
            for at in range(squares):
                for low, high in ((4 * at + 3, (4 * at + 4) % (4 * squares)), (4 * at + 1, 4 * at + 2)):
                    rows[1][low], rows[1][high] = (high, ""), (low, "")

            def words():
                return ["".join(rng.choice(("01", "21")) for _ in range(length // 2)) for _ in range(4 * squares)]
            moved_rows = moved_slowly(rows, words())
            return moved_rows[0], moved_slowly(rows, words())[1], moved_rows[2]
        deed = great(2, 20)
        self.assertIsNone(rule_broken(deed))
        table = own_lot(deed, 1)
        for walk, word in loops(deed, 1):
            self.assertTrue(holds(table, word), walk)
        self.assertEqual(table, lot_table_of([word for _, word in loops(deed, 1)]))
        deed = great(12, 28)
        self.assertIsNone(rule_broken(deed))
        self.assertEqual(self.told(TooGreat, "most", own_lot, deed, 3), 2500)
        self.assertFalse(is_whole_deed(deed))
        # Just 2,500 numbers are told, four more are not.
        kinds = {}
        while len(kinds) < 2:
            deed = great(9, rng.choice((22, 24, 26)))
            many = len(own_table(deed, 0)[0])
            if many in (2500, 2504) and many not in kinds:
                kinds[many] = True
                if many == 2500:
                    self.assertEqual(len(own_lot(deed, 0)[0]), 2500)
                    self.assertIsNone(need_table(own_lot(deed, 0)))
                else:
                    self.assertEqual(self.told(TooGreat, "most", own_lot, deed, 0), 2500)

    def test_own_lots_are_tables(self):
        rng = random.Random(20)
        for _ in range(150):
            deed = patched_deed(rng, rng.randint(1, 6), rng.randint(0, 8))
            for cell in range(len(deed[0])):
                self.assertIsNone(need_table(own_lot(deed, cell)))
        # A net as a deed: all closed walks gather "".
        for net in (SPHERE, random_net(rng, 8)):
            deed = tuple(tuple((there, "") for there in row) for row in net)
            self.assertIsNone(rule_broken(deed))
            self.assertEqual(own_lot(deed, 3), folded(()))
            self.assertFalse(is_whole_deed(deed))

    def test_wrong_values(self):
        for call in (is_whole_deed, need_whole, homes, lambda deed: own_lot(deed, None)):
            self.bad_deeds(call)
        for value in NO_INTEGERS + [-1, 2]:
            self.assertIs(self.told(BadNumber, "value", own_lot, HALF, value), value)


class MovingTest(Case):

    def test_renumbered(self):
        rng = random.Random(12)
        for _ in range(60):
            deed = patched_deed(rng, rng.randint(1, 12), 5)
            order = tuple(rng.sample(range(len(deed[0])), len(deed[0])))
            told = renumbered(deed, order)
            for change in range(3):
                for spot, cell in enumerate(order):
                    there, word = deed[change][cell]
                    self.assertEqual(told[change][spot], (order.index(there), word))
            self.assertIsNone(rule_broken(told))
        self.assertEqual(renumbered(HALF, (0, 1)), HALF)
        self.assertEqual(renumbered(SAME, (0,)), SAME)

    def test_moved(self):
        rng = random.Random(13)
        for _ in range(100):
            deed = random_deed(rng)
            words = tuple(rewritten(random_word(rng, 5)) for _ in deed[0])
            slow = moved_slowly(deed, words)
            self.assertEqual(moved(deed, words), slow)
            net = random_net(rng, 8)
            images = [led(net, flag // len(words), words[flag % len(words)]) * len(words) + flag % len(words)
                      for flag in range(8 * len(words))]
            self.assertTrue(is_likeness(done(deed, net), done(slow, net), tuple(images)))

    def test_sixty_characters(self):
        word = "1" + "01" * 14
        told = moved(SAME, (word,))
        self.assertEqual(max(len(row[0][1]) for row in told), 59)
        self.assertIs(need_deed(told), told)
        self.assertEqual(moved(told, (word[::-1],)), SAME)
        self.assertEqual(self.told(TooGreat, "most", moved, SAME, (word + "01",)), 60)
        self.assertEqual(moved(told, ("10" * 14 + "1" + "0",)), moved(SAME, ("0",)))
        self.assertEqual(self.told(TooGreat, "most", moved, HALF, ("12" * 31, "12" * 31)), 60)
        # No step leads cell 0 to itself, so that its word stands in the deed once.
        rest = ("",) * 5
        sixty = moved(TWOFOLD_OF_SIX, ("21" * 30,) + rest)
        self.assertEqual(max(len(each) for row in sixty for _, each in row), 60)
        self.assertEqual(moved(sixty, ("12" * 30,) + rest), TWOFOLD_OF_SIX)
        self.assertEqual(after(SAME, sixty), sixty)
        self.assertEqual(after(sixty, SAME), sixty)
        self.assertEqual(self.told(TooGreat, "most", after, NAMED["spin"], sixty), 60)
        self.assertEqual(self.told(TooGreat, "most", moved, TWOFOLD_OF_SIX, ("01" * 30,) + rest), 60)
        self.assertEqual(self.told(TooGreat, "most", moved, TWOFOLD_OF_SIX, ("21" * 30 + "2",) + rest), 60)

    def test_wrong_values(self):
        self.bad_deeds(lambda deed: renumbered(deed, None))
        self.bad_deeds(lambda deed: moved(deed, None))
        for value in NO_INTEGERS + [(0,), (0, 0), (0, 2), (1, True), (False, 1), [1, 0], (0, 1, 2), ((0, 1),), ("0", "1")]:
            self.assertIs(self.told(BadNumber, "value", renumbered, HALF, value), value)
        for value in OTHERS + ["01", ("0",), ("0", "1", "2"), ["0", "1"], ("0", 1), (None, "3"), ("3", None), ("00", ("1",))]:
            self.assertIsNone(self.told(BadWord, "place", moved, HALF, value))
        for value, place in ((("0", "013"), 2), (("x", "013"), 0), (("00", "3"), None), (("0", "20"), None),
                             (("01 ", "11"), 2), (("0011x", ""), 4)):
            self.assertEqual(self.told(BadWord, "place", moved, HALF, value), place)


class BrokenTest(Case):

    def test_what_breaks(self):
        rng = random.Random(14)
        kinds = {}
        tries = 0
        while min(kinds.get(rule, 0) for rule in ("still", "square", "apart", "back", "form")) < 20:
            tries += 1
            deed = [list(row) for row in patched_deed(rng, rng.randint(1, 6), 4)]
            many = len(deed[0])
            change, cell, other = rng.randrange(3), rng.randrange(many), rng.randrange(many)
            word = rng.choice(("", "0", "1", "2", "02", "101", "01", "0201", "1201"))
            if rng.random() < 0.2:
                deed[change][cell] = (other, word)
            else:
                for each in (cell, other):
                    there = deed[change][each][0]
                    if there not in (cell, other):
                        deed[change][there] = (there, rng.choice(("1", "0", "02")))
                deed[change][cell], deed[change][other] = (other, rewritten(word)), (cell, rewritten(word[::-1]))
            value = tuple(map(tuple, deed))
            fault = fault_slowly(value)
            kinds[fault and fault[0]] = kinds.get(fault and fault[0], 0) + 1
            if fault is None:
                self.assertIsNone(breaking_net(value))
            elif fault[0] in ("form", "back"):
                self.assertEqual(self.told(BadDeed, "word", breaking_net, value), fault[0])
                self.assertEqual(self.told(BadDeed, "cell", breaking_net, value), fault[1])
            else:
                self.looked_at(value)

    def looked_at(self, value):
        net, flag = breaking_net(value)
        need_net(net)
        self.assertIn(flag, range(len(net[0]) * len(value[0])))
        self.assertTrue(breaks(done_slowly(value, net), flag), value)

    def test_each_rule(self):
        back = rewritten(("10" * 29)[::-1])
        cases = [
            one_cell("", "1", "2"), one_cell("0", "", "1"), one_cell("0", "0", "1"), one_cell("0", "1", "0"),
            one_cell("0", "1", "121"), (((0, ""), (1, "1")), ((0, "1"), (1, "1")), ((0, "2"), (1, "2"))),
            (((0, "0"), (1, "0")), ((0, "1"), (1, "1")), ((0, "0"), (1, "1"))),
            (((1, ""), (0, "")), ((0, "1"), (1, "1")), ((1, ""), (0, ""))),
            # Long words that differ only at their ends.
            (((1, "10" * 29), (0, back)), ((0, "1"), (1, "1")), ((0, "1"), (1, "1"))),
            (((1, "10" * 29), (0, back)), ((0, "1"), (1, "1")), ((0, "1" + "0" + "1"), (1, "0")))]
        rules = set()
        for value in cases:
            rules.add(rule_broken(value)[0])
            self.looked_at(value)
        self.assertEqual(rules, {"still", "square", "apart"})
        # Words of 60 characters on both ways.
        rng = random.Random(15)
        for _ in range(30):
            zero, two = ("".join(rng.choice(("01", "21", "021")) for _ in range(30))[:60] for _ in range(2))
            zero, two = zero.rstrip("0"), two.rstrip("0")
            rows = [[(1, word), (0, rewritten(word[::-1]))] for word in (zero, two)]
            value = (tuple(rows[0]), ((0, "1"), (1, "1")), tuple(rows[1]))
            if rule_broken(value) is not None:
                self.assertEqual(rule_broken(value)[0], "square")
                self.looked_at(value)

    def test_wrong_values(self):
        for value in OTHERS + [(), 3, "012", list(SAME), one_cell("0", "1", "20"), cells_apart(49, "0", "1", "2")]:
            self.assertEqual(self.told(BadDeed, "word", breaking_net, value), "form")
            self.assertIsNone(self.told(BadDeed, "cell", breaking_net, value))
        value = (((0, "0"), (1, "0")), ((0, "1"), (1, "12")), ((0, ""), (1, "0")))
        self.assertEqual(self.told(BadDeed, "word", breaking_net, value), "back")
        self.assertEqual(self.told(BadDeed, "cell", breaking_net, value), 1)
        self.assertIsNone(breaking_net(APART))


class MakersTest(Case):

    def test_names(self):
        self.assertEqual(NAMES, ("same", "flip", "twist", "spin", "wheel", "unwheel", "half", "twin", "middle", "cut",
                                 "raise", "join", "spread", "bevel"))
        for name, deed in NAMED.items():
            self.assertEqual(deed_named(name), deed)
        flip = NAMED["flip"]
        self.assertEqual(deed_named("raise"), after_slowly(after_slowly(flip, CUT), flip))
        self.assertEqual(deed_named("join"), after_slowly(MIDDLE, flip))
        self.assertEqual(deed_named("spread"), after_slowly(MIDDLE, MIDDLE))
        self.assertEqual(deed_named("bevel"), after_slowly(MIDDLE, CUT))
        for name in NAMES:
            self.assertTrue(is_whole_deed(deed_named(name)))

    def test_counts(self):
        def counts(net):
            return tuple(len(rounds(net, tuple(pair))) for pair in ("12", "02", "01"))
        rng = random.Random(16)
        for net in list(every_net(4)) + [random_net(rng, 4 * rng.randint(1, 9)) for _ in range(20)]:
            v, e, f = counts(net)
            told = {"same": (v, e, f), "flip": (f, e, v), "half": (v + e, 2 * e, f), "twin": (v, 2 * e, e + f),
                    "middle": (e, 2 * e, v + f), "cut": (2 * e, 3 * e, v + f), "raise": (v + f, 3 * e, 2 * e),
                    "join": (v + f, 2 * e, e), "spread": (2 * e, 4 * e, e + v + f), "bevel": (4 * e, 6 * e, e + v + f)}
            for name, numbers in told.items():
                made = done(deed_named(name), net)
                self.assertEqual(counts(made), numbers, name)
                self.assertEqual(euler_number(made), v - e + f)

    def test_wrong_names(self):
        for value in OTHERS + ["", "Same", "same ", "cuts", ("same",), ["same"], 0]:
            self.assertIs(self.told(BadName, "name", deed_named, value), value)


class SequenceTest(Case):

    def test_after(self):
        rng = random.Random(17)
        for _ in range(150):
            first, second = patched_deed(rng, rng.randint(1, 5), 3), random_deed(rng, 6)
            if rng.random() < 0.5:
                first, second = second, first
            slow = after_slowly(first, second)
            if max(len(word) for row in slow for _, word in row) <= 60:
                self.assertEqual(after(first, second), slow)
                net = random_net(rng, 8)
                self.assertEqual(done(slow, net), done(second, done(first, net)))
        self.assertEqual(after(SAME, HALF), HALF)
        self.assertEqual(after(HALF, SAME), HALF)
        self.assertTrue(are_alike(done(after(HALF, CUT), SPHERE), done(CUT, done(HALF, SPHERE))))

    def test_limits(self):
        self.assertEqual(len(after(many_times(HALF, 4), CUT)[0]), 48)
        self.assertEqual(self.told(TooGreat, "most", after, many_times(HALF, 4), deed_named("spread")), 48)
        long = moved(SAME, ("1" + "01" * 14,))
        self.assertEqual(self.told(TooGreat, "most", after, long, moved(SAME, ("12",))), 60)
        sixty = after(SAME, long)
        self.assertEqual(sixty, long)
        # More than 48 cells are told ahead of long words.
        self.assertEqual(self.told(TooGreat, "most", after, after(long, many_times(HALF, 4)), many_times(HALF, 3)), 48)
        wide = cells_apart(48, "0", "1", "2")
        self.assertEqual(after(wide, SAME), wide)
        self.assertEqual(self.told(TooGreat, "most", after, wide, HALF), 48)

    def test_scripts(self):
        rng = random.Random(18)
        self.assertEqual(script_of(()), SAME)
        self.assertEqual(script_of((HALF,)), HALF)
        self.assertEqual(script_of((SAME,) * 20), SAME)
        for _ in range(40):
            deeds = [random_deed(rng, 4) for _ in range(rng.randint(0, 4))]
            cells = 1
            for deed in deeds:
                cells *= len(deed[0])
            slow = SAME
            longest = 0
            for deed in deeds:
                slow = after_slowly(slow, deed)
                longest = max([longest] + [len(word) for row in slow for _, word in row])
            if cells <= 48 and longest <= 60:
                self.assertEqual(script_of(tuple(deeds)), slow)
        # At the first step that is too great, though a later one would be small again.
        long, back = moved(SAME, ("1" + "01" * 14,)), moved(SAME, ("2102",))
        self.assertEqual(self.told(TooGreat, "most", script_of, (long, back, many_times(HALF, 5), HALF)), 60)
        self.assertEqual(self.told(TooGreat, "most", script_of, (many_times(HALF, 5), HALF, long, back)), 48)

    def test_many_times(self):
        self.assertEqual(many_times(HALF, 0), SAME)
        self.assertEqual(many_times(HALF, 1), HALF)
        self.assertEqual(many_times(CUT, 3), after_slowly(after_slowly(CUT, CUT), CUT))
        self.assertEqual(many_times(NAMED["wheel"], 60), SAME)
        self.assertEqual(many_times(NAMED["wheel"], 59), NAMED["unwheel"])
        self.assertEqual(len(many_times(HALF, 5)[0]), 32)
        self.assertEqual(self.told(TooGreat, "most", many_times, HALF, 6), 48)
        self.assertEqual(self.told(TooGreat, "most", many_times, moved(SAME, ("12",)), 60), 60)

    def test_wrong_values(self):
        self.bad_deeds(lambda deed: after(deed, None))
        self.bad_deeds(lambda deed: after(HALF, deed))
        self.bad_deeds(lambda deed: many_times(deed, None))
        for value in [None, True, False, 0, "", [], {}, STRANGE, [HALF], (HALF,) * 21, (None,) * 21]:
            self.assertIsNone(self.told(BadScript, "place", script_of, value))
        for value, place in (((None,), 0), ((HALF, HALF[:2]), 1), ((HALF, one_cell("0", "1", "0"), None), 1),
                             ((many_times(HALF, 5), HALF, None), 2), (HALF, 0), ((list(HALF),), 0)):
            self.assertEqual(self.told(BadScript, "place", script_of, value), place)
        for value in NO_INTEGERS + [-1, 61]:
            self.assertIs(self.told(BadNumber, "value", many_times, HALF, value), value)


if __name__ == "__main__":
    unittest.main()
