"""Tests of growth."""

import random
import unittest

from common import NO_INTEGERS, NO_WORDS, OTHERS, every_net, led, random_net, random_word, rewritten
from deed_common import (
    APART, HOMELESS, NAMED, TWOFOLD, done_slowly, fault_slowly, moved_slowly, one_cell, patched_deed, random_deed,
    walked_slowly)
from netsredrawn.counting import pulled, rounds_made
from netsredrawn.errors import BadDeed, BadFlag, BadNet, BadNumber, BadPair, BadTable, BadWord, NetError, TooGreat
from netsredrawn.forms import class_word, need_form, pair_form, total
from netsredrawn.growth import closed_lot, cycle_after, lot_table, rounds_after, total_after, word_trail
from netsredrawn.makers import NAMES, deed_named
from netsredrawn.rounds import cycle_length, rounds
from netsredrawn.sequence import many_times

HALF, CUT, MIDDLE, SAME = (NAMED[name] for name in ("half", "cut", "middle", "same"))
SPHERE = ((1, 0, 3, 2), (2, 3, 0, 1), (2, 3, 0, 1))
ONE_CORNER = ((1, 0, 3, 2), (3, 2, 1, 0), (2, 3, 0, 1))
PAIRS = ("12", "02", "01")
SHORT = ("", "0", "1", "2", "02")


def closed_slowly(deed, words):
    """The least closed set with some words, pass by pass, or the limit that is passed."""
    found, new = set(), set(words)
    while new:
        if any(len(word) > 200 for word in new):
            return 200
        found |= new
        if len(found) > 40:
            return 40
        new = {word for each in new for word, _ in pulled(deed, (0, ((each, 1),)))[1]} - found
    return tuple(sorted(found))


def trail_slowly(deed, word):
    """The trail, or the limit that is passed."""
    stages, many, word = [], 1, rewritten(word)
    while word not in [each for _, each in stages]:
        if len(word) > 2000:
            return 2000
        if len(stages) == 100:
            return 100
        stages.append((many, word))
        walk, many = word, 1
        here, gathered = walked_slowly(deed, 0, walk)
        while here:
            here, more = walked_slowly(deed, here, walk)
            gathered += more
            many += 1
        word = rewritten(gathered)
    return tuple(stages), many, [each for _, each in stages].index(word)


class Case(unittest.TestCase):

    def told(self, error, attribute, call, *values):
        with self.assertRaises(error) as caught:
            call(*values)
        return getattr(caught.exception, attribute) if attribute else None

    def bad_deeds(self, call):
        for value in OTHERS + [(), list(SAME), HALF[:2], one_cell("0", "1", "20"), "012", 3]:
            self.assertEqual(self.told(BadDeed, "word", call, value), "form")
        self.assertEqual(self.told(BadDeed, "word", call, one_cell("0", "1", "0")), "apart")

    def bad_nets(self, call):
        for value in OTHERS + [SPHERE[:2], list(SPHERE), ((1, 0), (1, 0), (1, 0))]:
            self.assertEqual(self.told(BadNet, "word", call, value), "form")

    def bad_times(self, call):
        for value in NO_INTEGERS + [-1, 10 ** 30 + 1]:
            self.assertIs(self.told(BadNumber, "value", call, value, None), value)
        for value in NO_INTEGERS + [0, -1, 10 ** 30 + 1]:
            self.assertIs(self.told(BadNumber, "value", call, 0, value), value)

    def deeds(self, seed, number=50):
        rng = random.Random(seed)
        found = [APART, HOMELESS, TWOFOLD] + [deed_named(name) for name in NAMES]
        return found + [patched_deed(rng, rng.randint(1, 4), rng.randint(0, 2)) for _ in range(number)]


class LotsTest(Case):

    def test_closed_lots(self):
        rng = random.Random(1)
        kinds = {}
        for deed in self.deeds(2, 80):
            words = sorted({class_word(random_word(rng, 8)) for _ in range(rng.randint(1, 3))} - set(SHORT))
            form = (rng.randint(-3, 3), tuple((word, rng.choice((-2, 1, 5))) for word in words))
            told = closed_slowly(deed, words)
            kinds[told if isinstance(told, int) else 0] = kinds.get(told if isinstance(told, int) else 0, 0) + 1
            if isinstance(told, int):
                self.assertEqual(self.told(TooGreat, "most", closed_lot, deed, form), told)
                continue
            self.assertEqual(closed_lot(deed, form), told)
            table = lot_table(deed, told)
            for word, row in zip(told, table):
                edges, parts = pulled(deed, (0, ((word, 1),)))
                self.assertEqual(row, (edges,) + tuple(dict(parts).get(each, 0) for each in told))
        self.assertEqual(set(kinds), {0, 200, 40}, kinds)
        self.assertEqual(closed_lot(SAME, (5, ())), ())
        self.assertEqual(lot_table(SAME, ()), ())
        self.assertEqual(closed_lot(HALF, pair_form("12")), ("12",))
        self.assertEqual(lot_table(HALF, ("12",)), ((1, 1),))

    def test_limits_of_lots(self):
        words = sorted({class_word("01" * many + "21" * other) for many in range(1, 7) for other in range(1, 8)})[:41]
        self.assertEqual(len(words), 41)
        forty = (0, tuple((word, 1) for word in words[:40]))
        self.assertEqual(closed_lot(SAME, forty), tuple(words[:40]))
        more = (0, tuple((word, 1) for word in words))
        self.assertIs(need_form(more), more)
        self.assertEqual(self.told(TooGreat, "most", closed_lot, SAME, more), 40)
        long = class_word("01" * 100 + "21")
        self.assertEqual(self.told(TooGreat, "most", closed_lot, SAME, (0, ((long, 1),))), 200)
        fits = class_word("01" * 100)
        self.assertEqual(closed_lot(SAME, (0, ((fits, 1),))), (fits,))
        # Of one pass that is both, 200 is told; of an earlier pass 40.
        both = (0, tuple((word, 1) for word in sorted(words + [long])))
        self.assertEqual(self.told(TooGreat, "most", closed_lot, SAME, both), 200)
        grows = (0, tuple((word, 1) for word in sorted(words[:40] + [class_word("01" * 100)])))
        self.assertEqual(self.told(TooGreat, "most", closed_lot, NAMED["twist"], grows), 40)
        self.assertEqual(self.told(TooGreat, "most", closed_lot, NAMED["twist"], (0, ((fits, 1),))), 200)
        # What is pulled to more than 9,000 characters is too long for a lot, too.
        deed = moved_slowly(HALF, ["", "01" * 12])
        self.assertIsNone(fault_slowly(deed))
        for word in (class_word("01" * 60 + "21" * 30), class_word("012" * 60 + "01")):
            told = closed_slowly(deed, [word])
            if isinstance(told, int):
                self.assertEqual(self.told(TooGreat, "most", closed_lot, deed, (0, ((word, 1),))), told)

    def test_wrong_lots(self):
        good = ("01", "12")
        self.assertEqual(len(lot_table(HALF, good)), 2)
        for value in OTHERS + ["01", ["01"], 3, {"01": 1}]:
            if not isinstance(value, tuple):
                self.assertEqual(self.told(BadTable, "word", lot_table, HALF, value), "lot")
                self.assertIsNone(self.told(BadTable, "place", lot_table, HALF, value))
        for item in NO_WORDS + ["", "0", "1", "2", "02", "10", "21", "013", "001", "01", "1012", "2", "01" * 4499 + "021"]:
            if item != "12":
                self.assertEqual(self.told(BadTable, "place", lot_table, HALF, ("01", item)), 1)
                self.assertEqual(self.told(BadTable, "word", lot_table, HALF, ("01", item, None)), "lot")
        self.assertEqual(self.told(BadTable, "place", lot_table, HALF, ("12", "01")), 1)
        # Not closed: the place of the first word that is pulled to another one.
        for deed in self.deeds(3):
            lot = ("01", "012", "0121", "12")
            outside = [place for place, word in enumerate(lot)
                       if set(each for each, _ in pulled(deed, (0, ((word, 1),)))[1]) - set(lot)]
            if outside:
                self.assertEqual(self.told(BadTable, "place", lot_table, deed, lot), outside[0])
            else:
                self.assertEqual(len(lot_table(deed, lot)), 4)
        # The words are looked at ahead of what they are pulled to.
        self.assertEqual(self.told(BadTable, "place", lot_table, NAMED["twist"], ("01", "0121", "01")), 2)
        long = "01" * 4500
        self.assertEqual(lot_table(SAME, (long,)), ((0, 1),))
        self.assertEqual(self.told(TooGreat, "most", lot_table, NAMED["twist"], (long,)), 9000)
        self.assertEqual(self.told(BadTable, "place", lot_table, NAMED["twist"], ("0101", long)), 0)
        self.assertEqual(self.told(TooGreat, "most", lot_table, NAMED["twist"], (long, "12")), 9000)

    def test_wrong_values(self):
        self.bad_deeds(lambda deed: closed_lot(deed, None))
        self.bad_deeds(lambda deed: lot_table(deed, None))
        for value in OTHERS + [(0,), (True, ()), (0, []), (0, (), ())]:
            self.assertEqual(self.told(BadTable, "word", closed_lot, HALF, value), "form")
        self.assertEqual(self.told(BadTable, "place", closed_lot, HALF, (0, (("01", 1), ("10", 1)))), 1)


class TotalsTest(Case):

    def test_against_doing_it(self):
        rng = random.Random(4)
        looked = 0
        for deed in self.deeds(5, 80):
            words = sorted({class_word(random_word(rng, 5)) for _ in range(2)} - set(SHORT))
            form = (rng.randint(-3, 3), tuple((word, rng.choice((-2, 1, 5))) for word in words))
            closed = closed_slowly(deed, words)
            net = rng.choice((SPHERE, ONE_CORNER, random_net(rng, 8)))
            made, modulus = net, rng.randint(1, 1000)
            for times in range(4):
                if len(made[0]) > 2000:
                    break
                if isinstance(closed, int):
                    self.assertEqual(self.told(TooGreat, "most", total_after, deed, net, form, times, modulus), closed)
                else:
                    looked += 1
                    slow = form[0] * len(made[0]) // 2 + sum(many * self.cycles(made, word) for word, many in form[1])
                    self.assertEqual(total_after(deed, net, form, times, modulus), slow % modulus)
                for pair in PAIRS:
                    told = closed_slowly(deed, [word for word, _ in pair_form(pair)[1]])
                    if isinstance(told, int):
                        self.assertEqual(self.told(TooGreat, "most", rounds_after, deed, net, pair, times, 7), told)
                    else:
                        number = len(self.rounds(made, pair))
                        self.assertEqual(rounds_after(deed, net, pair, times, modulus), number % modulus)
                        self.assertEqual(rounds_after(deed, net, pair, times, 10 ** 30), number)
                made = done_slowly(deed, made)
        self.assertGreater(looked, 100)

    def cycles(self, net, word):
        met, told = set(), 0
        for flag in range(len(net[0])):
            told += flag not in met
            while flag not in met:
                met.add(flag)
                flag = led(net, flag, word)
        return told

    def rounds(self, net, pair):
        met, told = set(), []
        for flag in range(len(net[0])):
            if flag not in met:
                told.append(flag)
                waiting = [flag]
                while waiting:
                    here = waiting.pop()
                    met.add(here)
                    waiting += [net[int(sign)][here] for sign in pair if net[int(sign)][here] not in met]
        return told

    def test_great_times(self):
        rng = random.Random(6)
        net = random_net(rng, 12)
        for name in ("half", "twin", "middle", "cut", "raise", "spread", "bevel", "flip"):
            deed = deed_named(name)
            for pair in PAIRS:
                # Modulo a small number the row of states comes again: what is great is told by what is small.
                row = [rounds_after(deed, net, pair, times, 6) for times in range(60)]
                periods = [(begin, period) for begin in range(8) for period in range(1, 25)
                           if all(row[at] == row[at + period] for at in range(begin, 60 - period))]
                begin, period = periods[0]
                for times in (10 ** 30, 10 ** 30 - 1, 10 ** 29 + 12345):
                    self.assertEqual(rounds_after(deed, net, pair, times, 6), row[begin + (times - begin) % period])
            form = (3, (("01", -2), ("12", 5)))
            for times in (10 ** 30, 12345678901234567890):
                great = total_after(deed, net, form, times, 6 * 35)
                self.assertEqual(great % 6, total_after(deed, net, form, times, 6))
                self.assertEqual(great % 35, total_after(deed, net, form, times, 35))
        many = len(net[0]) * pow(2, 10 ** 20, 10 ** 30 * 4) // 4
        self.assertEqual(rounds_after(HALF, net, "02", 10 ** 20, 10 ** 30), many % 10 ** 30)
        self.assertEqual(rounds_after(HALF, ONE_CORNER, "12", 10, 1000), 24)
        self.assertEqual(rounds_after(HALF, ONE_CORNER, "12", 10 ** 30, 1), 0)

    def test_great_nets_and_lots(self):
        rng = random.Random(7)
        net = random_net(rng, 960)
        for pair in PAIRS:
            self.assertEqual(rounds_after(CUT, net, pair, 0, 10 ** 30), len(rounds(net, tuple(pair))))
            self.assertEqual(rounds_after(CUT, net, pair, 1, 10 ** 30), rounds_made(CUT, net, pair))
            self.assertEqual(rounds_after(CUT, net, pair, 3, 10 ** 30), rounds_made(many_times(CUT, 3), net, pair))
        words = sorted({class_word("01" * many + "21" * other) for many in range(1, 7) for other in range(1, 8)})[:40]
        form = (1, tuple((word, 3) for word in words))
        self.assertEqual(total_after(SAME, SPHERE, form, 10 ** 30, 10 ** 30), total(form, SPHERE))

    def test_wrong_values(self):
        form = (0, (("01" * 101, 1),))
        self.bad_deeds(lambda deed: total_after(deed, None, None, None, None))
        self.bad_deeds(lambda deed: rounds_after(deed, None, None, None, None))
        self.bad_nets(lambda net: total_after(HALF, net, None, None, None))
        self.bad_nets(lambda net: rounds_after(HALF, net, None, None, None))
        for value in OTHERS + [(0,), (True, ()), (0, [])]:
            self.assertEqual(self.told(BadTable, "word", total_after, HALF, SPHERE, value, None, None), "form")
        for value in OTHERS + ["", "21", "012", 12]:
            self.assertIs(self.told(BadPair, "value", rounds_after, HALF, SPHERE, value, None, None), value)
        self.bad_times(lambda times, modulus: total_after(HALF, SPHERE, form, times, modulus))
        self.bad_times(lambda times, modulus: rounds_after(HALF, SPHERE, "12", times, modulus))
        # What is too great comes behind all of these, also of no times.
        self.assertEqual(self.told(TooGreat, "most", total_after, HALF, SPHERE, form, 0, 1), 200)


class TrailsTest(Case):

    def test_trails(self):
        rng = random.Random(8)
        kinds = {}
        for deed in self.deeds(9, 100) + [random_deed(rng, 12) for _ in range(40)]:
            for word in (random_word(rng, 6), random_word(rng, 12), "01", "12", "012"):
                slow = trail_slowly(deed, word)
                kinds[slow if isinstance(slow, int) else 0] = kinds.get(slow if isinstance(slow, int) else 0, 0) + 1
                if isinstance(slow, int):
                    self.assertEqual(self.told(TooGreat, "most", word_trail, deed, word), slow)
                else:
                    self.assertEqual(word_trail(deed, word), slow)
        self.assertGreater(kinds[0], 100)
        self.assertGreater(kinds[2000], 3)
        self.assertEqual(word_trail(SAME, "00"), (((1, ""),), 1, 0))
        self.assertEqual(word_trail(HALF, "12"), (((1, "12"),), 1, 0))
        self.assertEqual(word_trail(NAMED["flip"], "1101"), (((1, "01"), (1, "21")), 1, 0))

    def test_limits_of_trails(self):
        self.assertEqual(word_trail(SAME, "01" * 1000), (((1, "01" * 1000),), 1, 0))
        self.assertEqual(self.told(TooGreat, "most", word_trail, SAME, "01" * 1000 + "0"), 2000)
        self.assertEqual(word_trail(SAME, "01" * 1000 + "00"), (((1, "01" * 1000),), 1, 0))
        self.assertEqual(word_trail(NAMED["twist"], "01" * 666)[0][1], (1, "021" * 666))
        self.assertEqual(self.told(TooGreat, "most", word_trail, NAMED["twist"], "01" * 667), 2000)
        # A row of words that grows by a few characters at each stage passes 100 stages first.
        deed = moved_slowly(SAME, ["01"])
        self.assertEqual(trail_slowly(deed, "12"), 100)
        self.assertEqual(self.told(TooGreat, "most", word_trail, deed, "12"), 100)
        # One that begins long is too long first.
        self.assertEqual(self.told(TooGreat, "most", word_trail, deed, "12" * 950), trail_slowly(deed, "12" * 950))
        self.assertEqual(trail_slowly(deed, "12" * 950), 2000)
        # The 101st stage, with more than 2,000 characters and with fewer.
        told = {trail_slowly(deed, "12" * many) for many in (790, 800, 801, 802, 811)}
        self.assertEqual(told, {100, 2000})
        for many in (790, 800, 801, 802, 811):
            self.assertEqual(self.told(TooGreat, "most", word_trail, deed, "12" * many), trail_slowly(deed, "12" * many))

    def test_cycles_after(self):
        rng = random.Random(10)
        looked = 0
        for deed in self.deeds(11, 60):
            net = rng.choice((SPHERE, ONE_CORNER, random_net(rng, 8)))
            flag, word, modulus = rng.randrange(len(net[0])), random_word(rng, 5), rng.randint(1, 100)
            made, here = net, flag
            for times in range(5):
                if len(made[0]) > 3000:
                    break
                length, there = 1, led(made, here, word)
                while there != here:
                    there = led(made, there, word)
                    length += 1
                if isinstance(trail_slowly(deed, word), int):
                    self.assertEqual(self.told(TooGreat, "most", cycle_after, deed, net, flag, word, times, modulus),
                                     trail_slowly(deed, word))
                else:
                    looked += 1
                    self.assertEqual(cycle_after(deed, net, flag, word, times, modulus), length % modulus)
                    self.assertEqual(cycle_after(deed, net, flag, word, times, 10 ** 30), length)
                made, here = done_slowly(deed, made), here * len(deed[0])
        self.assertGreater(looked, 100)

    def test_great_times(self):
        rng = random.Random(12)
        net = random_net(rng, 40)
        great = 0
        for deed in self.deeds(13, 150):
            word = random_word(rng, 6)
            try:
                stages, last, place = word_trail(deed, word)
            except NetError:
                continue
            ways, words = [many for many, _ in stages], [each for _, each in stages]
            flag, modulus = rng.randrange(40), rng.choice((7, 12, 1000))
            told, at = 1, 0
            for times in range(40):
                slow = told * cycle_length(net, flag, words[at])
                self.assertEqual(cycle_after(deed, net, flag, word, times, modulus), slow % modulus)
                at += 1
                told *= last if at == len(stages) else ways[at]
                at = place if at == len(stages) else at
            period = len(stages) - place
            around = last
            for many in ways[place + 1:]:
                around *= many
            for times in (10 ** 30, 10 ** 30 - 1, 10 ** 30 - 2, 10 ** 18 + 9):
                turns, rest = divmod(times - len(stages), period)
                few = len(stages) + rest
                # As many whole ways around as there are, then the few others.
                slow = pow(around, turns, modulus) * cycle_after(deed, net, flag, word, few, 10 ** 30)
                self.assertEqual(cycle_after(deed, net, flag, word, times, modulus), slow % modulus)
            great += around > 1
        self.assertGreater(great, 1)
        self.assertEqual(cycle_after(SAME, net, 5, "01", 10 ** 30, 1), 0)
        net = random_net(rng, 960)
        self.assertEqual(cycle_after(SAME, net, 959, "01", 10 ** 30, 10 ** 30), cycle_length(net, 959, "01"))

    def test_wrong_values(self):
        self.bad_deeds(lambda deed: word_trail(deed, None))
        self.bad_deeds(lambda deed: cycle_after(deed, None, None, None, None, None))
        self.bad_nets(lambda net: cycle_after(HALF, net, None, None, None, None))
        for value in NO_INTEGERS + [-1, 4]:
            self.assertIs(self.told(BadFlag, "flag", cycle_after, HALF, SPHERE, value, None, None, None), value)
        for value in NO_WORDS:
            self.assertIsNone(self.told(BadWord, "place", word_trail, HALF, value))
            self.assertIsNone(self.told(BadWord, "place", cycle_after, HALF, SPHERE, 0, value, None, None))
        self.assertEqual(self.told(BadWord, "place", word_trail, HALF, "01 "), 2)
        self.bad_times(lambda times, modulus: cycle_after(HALF, SPHERE, 0, "01" * 1001, times, modulus))
        self.assertEqual(self.told(TooGreat, "most", cycle_after, HALF, SPHERE, 0, "01" * 1001, 0, 1), 2000)


if __name__ == "__main__":
    unittest.main()
