"""Tests of strips, forms, counting, sizes and euler."""

import random
import unittest

from common import NO_INTEGERS, NO_WORDS, OTHERS, STRANGE, every_net, led, random_net, random_word, reduced_words_up_to, rewritten
from deed_common import (
    APART, HOMELESS, NAMED, TWOFOLD, after_slowly, done_slowly, moved_slowly, one_cell, patched_deed, random_deed,
    walked_slowly)
from netsredrawn.counting import count_form, degree_counts, pulled, rounds_made
from netsredrawn.errors import BadDeed, BadFlag, BadNet, BadNumber, BadPair, BadTable, BadWord, TooGreat
from netsredrawn.euler import euler_form, keeps_euler, number_table, numbers_after, numbers_then
from netsredrawn.forms import (
    class_word, form_sum, form_times, need_form, pair_form, parting_total, total, word_total)
from netsredrawn.listing import all_nets
from netsredrawn.makers import NAMES, deed_named
from netsredrawn.moving import renumbered
from netsredrawn.nets import is_joined, need_net
from netsredrawn.rounds import degrees, euler_number, rounds
from netsredrawn.sequence import many_times
from netsredrawn.sizes import common_divisor, cycle_net, degree_comes, degree_net, degrees_told
from netsredrawn.strips import round_degree, strips

HALF, CUT, MIDDLE, SAME = (NAMED[name] for name in ("half", "cut", "middle", "same"))
PAIRS = ("12", "02", "01")
SPHERE = ((1, 0, 3, 2), (2, 3, 0, 1), (2, 3, 0, 1))
NO_PAIRS = OTHERS + ["", "21", "10", "012", "1", ("1", "2"), 12, STRANGE]


def back(word):
    return rewritten(word[::-1])


def kin_slowly(word, most):
    """All words that are kin to one, moved by words of at most so many characters."""
    word = rewritten(word)
    return {rewritten(back(z) + each + z) for z in reduced_words_up_to(most) for each in (word, back(word))}


def class_slowly(word, most=6):
    return min(kin_slowly(word, most), key=lambda each: (len(each), each))


def cycles(net, word):
    """The lengths of all cycles for a word."""
    met, told = set(), []
    for flag in range(len(net[0])):
        length = 0
        while flag not in met:
            met.add(flag)
            flag = led(net, flag, word)
            length += 1
        if length:
            told.append(length)
    return told


def round_sizes(net, pair):
    """The round of each flag, as a set."""
    rows = {}
    for row in rounds(net, tuple(pair)):
        for flag in row:
            rows[flag] = row
    return rows


def deeds_of_all_kinds(seed, number, most=6):
    rng = random.Random(seed)
    found = [APART, HOMELESS, TWOFOLD] + [deed_named(name) for name in NAMES]
    while len(found) < number:
        found.append(patched_deed(rng, rng.randint(1, most), rng.randint(0, 4)))
    return found


class Case(unittest.TestCase):

    def told(self, error, attribute, call, *values):
        with self.assertRaises(error) as caught:
            call(*values)
        return getattr(caught.exception, attribute) if attribute else None

    def bad_deeds(self, call):
        for value in OTHERS + [(), list(SAME), HALF[:2], one_cell("0", "1", "20"), "012", 3]:
            self.assertEqual(self.told(BadDeed, "word", call, value), "form")
        self.assertEqual(self.told(BadDeed, "word", call, one_cell("0", "1", "0")), "apart")

    def bad_nets(self, call):
        for value in OTHERS + [SPHERE[:2], list(SPHERE), ((1, 0), (1, 0), (1, 0))]:
            self.assertEqual(self.told(BadNet, "word", call, value), "form")

    def bad_pairs(self, call):
        for value in NO_PAIRS:
            self.assertIs(self.told(BadPair, "value", call, value), value)

    def bad_forms(self, call):
        for value in OTHERS + [(0,), (0, (), ()), [0, ()], (0, []), (True, ()), ("0", ()), (None, ()), (0, "01"), ((), 0)]:
            self.assertEqual(self.told(BadTable, "word", call, value), "form")
            self.assertIsNone(self.told(BadTable, "place", call, value))
        good = ("01", 1)
        for item in (("12", 0), ("12", True), ("12", False), ("12", "1"), ("12", None), ("12", (1,)), ("12",), ["12", 1], ("12", 1, 1),
                     ("10" * 4501, 1), ("01" * 4501, 1), ("121", 1), ("2", 1),
                     None, True, "01", ("01",), ("01", 1, 1), ["01", 1], ("01", 0), ("01", True), ("01", "1"), (1, "01"), (None, 1),
                     ("", 1), ("0", 1), ("02", 1), ("1", 2), ("10", 1), ("21", 1), ("012", 1.5), ("1012", 1), ("013", 1),
                     ("0 1", 1), ("210", 1), ("20", 1), ("001", 1), (("01", 1), 1), good, ("00", 1)):
            for value in ((0, (good, item)), (0, (good, item, None))):
                self.assertEqual(self.told(BadTable, "word", call, value), "form")
                self.assertEqual(self.told(BadTable, "place", call, value), 1)
        self.assertEqual(self.told(BadTable, "place", call, (0, (("12", 1), good))), 1)
        self.assertEqual(self.told(BadTable, "place", call, (0, (("10", 1), good))), 0)


class StripsTest(Case):

    def test_strips_by_their_cells(self):
        for deed in deeds_of_all_kinds(1, 90, 9):
            for pair in PAIRS:
                told = strips(deed, pair)
                self.assertEqual(sorted(cell for strip in told for cell in strip[1]), list(range(len(deed[0]))))
                self.assertEqual([min(strip[1]) for strip in told], sorted(min(strip[1]) for strip in told))
                for strip in told:
                    self.one_strip(deed, pair, strip)

    def one_strip(self, deed, pair, strip):
        kind, cells, words = strip
        first, second = (deed[int(sign)] for sign in pair)
        ends = [cell for cell in cells if cell in (first[cell][0], second[cell][0])]
        if kind == "ring":
            self.assertEqual((ends, cells[0], len(words), len(cells) % 2), ([], min(cells), 1, 0))
            walk = pair * (len(cells) // 2)
            for at, cell in enumerate(cells):
                self.assertEqual(walked_slowly(deed, cells[0], walk[:at])[0], cell)
            self.assertEqual(walked_slowly(deed, cells[0], walk), (cells[0], words[0]))
            return
        self.assertEqual(kind, "row")
        if len(cells) == 1:
            self.assertEqual(words, (first[cells[0]][1], second[cells[0]][1]))
            return
        self.assertEqual(sorted(ends), sorted((cells[0], cells[-1])))
        self.assertLess(cells[0], cells[-1])
        stays, goes = pair if first[cells[0]][0] == cells[0] else pair[::-1]
        walk = (goes + stays) * len(cells)
        self.assertEqual(walked_slowly(deed, cells[0], stays), (cells[0], words[0]))
        for at, cell in enumerate(cells):
            self.assertEqual(walked_slowly(deed, cells[0], walk[:at])[0], cell)
        there = walk[:len(cells) - 1]
        self.assertEqual(walked_slowly(deed, cells[0], there + walk[len(cells) - 1] + there[::-1]), (cells[0], words[1]))

    def test_examples(self):
        self.assertEqual(strips(SAME, "12"), (("row", (0,), ("1", "2")),))
        self.assertEqual(strips(HALF, "12"), (("row", (0,), ("1", "2")), ("row", (1,), ("0", "2"))))
        self.assertEqual(strips(HALF, "01"), (("row", (0, 1), ("1", "0")),))
        self.assertEqual(strips(CUT, "12"), (("row", (0, 1, 2), ("2", "2")),))
        ring = strips(TWOFOLD, "12")[0]
        self.assertEqual(ring[0], "ring")
        self.assertEqual(len(ring[1]), 4)

    def test_degrees_flag_by_flag(self):
        rng = random.Random(2)
        for deed in deeds_of_all_kinds(3, 60, 6):
            for net in [SPHERE, random_net(rng, 8), random_net(rng, 16)]:
                made = done_slowly(deed, net)
                for pair in PAIRS:
                    rows = round_sizes(made, pair)
                    for flag in rng.sample(range(len(made[0])), 4):
                        self.assertEqual(round_degree(deed, net, pair, flag), len(rows[flag]) // 2)

    def test_great_ones(self):
        rng = random.Random(4)
        net, deed = random_net(rng, 960), patched_deed(rng, 48, 10)
        for _ in range(20):
            flag, pair = rng.randrange(960 * 48), rng.choice(PAIRS)
            # Walk around the round, flag by flag.
            met = {flag}
            ends = [flag]
            while ends:
                here = ends.pop()
                for sign in pair:
                    there, word = deed[int(sign)][here % 48]
                    there = led(net, here // 48, word) * 48 + there
                    if there not in met:
                        met.add(there)
                        ends.append(there)
            self.assertEqual(round_degree(deed, net, pair, flag), len(met) // 2)
        self.assertEqual(round_degree(deed, net, "02", 960 * 48 - 1), 2)

    def test_wrong_values(self):
        self.bad_deeds(lambda deed: strips(deed, None))
        self.bad_deeds(lambda deed: round_degree(deed, None, None, None))
        self.bad_pairs(lambda pair: strips(HALF, pair))
        self.bad_nets(lambda net: round_degree(HALF, net, None, None))
        self.bad_pairs(lambda pair: round_degree(HALF, SPHERE, pair, None))
        for value in NO_INTEGERS + [-1, 8]:
            self.assertIs(self.told(BadFlag, "flag", round_degree, HALF, SPHERE, "12", value), value)


class FormsTest(Case):

    def test_class_words(self):
        rng = random.Random(5)
        for word in reduced_words_up_to(5) + [random_word(rng, 9) for _ in range(40)]:
            self.assertEqual(class_word(word), class_slowly(word))
        for word, told in (("", ""), ("0", "0"), ("101", "0"), ("212", "1"), ("102", "012"), ("1021", "02"), ("21", "12"),
                           ("10", "01"), ("210", "012"), ("0121", "0121"), ("1210", "0121")):
            self.assertEqual(class_word(rewritten(word)), told)

    def test_kin_words_have_as_many_cycles(self):
        rng = random.Random(6)
        for _ in range(30):
            word, net = random_word(rng, 8), random_net(rng, 16)
            self.assertEqual(sorted(cycles(net, word)), sorted(cycles(net, class_word(word))))

    def test_long_class_words(self):
        # A tail of 5,500 characters that is moved away, and a ring of up to 9,000.
        tail = "01" * 2750
        self.assertEqual(class_word(back(tail) + "21" + tail), "12")
        ring = "01" * 4499 + "021"
        self.assertEqual(class_word("01" * 4500), "01" * 4500)
        self.assertEqual(self.told(TooGreat, "most", class_word, ring), 9000)
        self.assertEqual(need_form((0, (("01" * 4500, 1),))), (0, (("01" * 4500, 1),)))
        self.assertEqual(self.told(BadTable, "place", need_form, (0, (("01" * 4499 + "021", 1),))), 0)
        self.assertEqual(self.told(TooGreat, "most", word_total, ring), 9000)

    def test_totals(self):
        rng = random.Random(7)
        for _ in range(60):
            net = random_net(rng, 4 * rng.randint(1, 8))
            words = sorted({class_word(random_word(rng, 7)) for _ in range(4)} - {"", "0", "1", "2", "02"})
            form = (rng.randint(-5, 5), tuple((word, rng.choice((-3, -1, 1, 2, 10 ** 40))) for word in words))
            other = (rng.randint(-5, 5), tuple((word, rng.choice((-2, 1, 3))) for word in words[1:]))
            self.assertIs(need_form(form), form)
            slow = form[0] * len(net[0]) // 2 + sum(many * len(cycles(net, word)) for word, many in form[1])
            self.assertEqual(total(form, net), slow)
            both = form_sum(form, other)
            self.assertIs(need_form(both), both)
            self.assertEqual(total(both, net), slow + total(other, net))
            number = rng.randint(-3, 3)
            times = form_times(form, number)
            self.assertIs(need_form(times), times)
            self.assertEqual(total(times, net), number * slow)
            word = random_word(rng, 8)
            self.assertEqual(total(word_total(word), net), 2 * len(cycles(net, word)))
            for pair in PAIRS:
                self.assertEqual(total(pair_form(pair), net), 2 * len(rounds(net, tuple(pair))))
        self.assertEqual(form_times((3, (("01", 2),)), 0), (0, ()))
        self.assertEqual(form_sum((3, (("01", 2),)), (-3, (("01", -2), ("12", 1)))), (0, (("12", 1),)))
        self.assertEqual([word_total(word) for word in ("", "00", "0", "121", "02", "10", "12")], [
            (4, ()), (4, ()), (2, ()), (2, ()), (2, ()), (0, (("01", 2),)), (0, (("12", 2),))])
        self.assertEqual([pair_form(pair) for pair in PAIRS], [(0, (("12", 1),)), (1, ()), (0, (("01", 1),))])
        self.assertEqual(form_times((10 ** 999, ()), 10 ** 999), (10 ** 1998, ()))

    def test_parting_total(self):
        rng = random.Random(8)
        words = sorted({class_word(random_word(rng, 8)) for _ in range(80)} - {"", "0", "1", "2", "02"})[:20]
        kinds = {}
        for _ in range(60):
            forms = []
            for _ in range(2):
                some = sorted(rng.sample(words, 2))
                forms.append((rng.randint(-2, 2), tuple((word, rng.choice((-1, 1, 2))) for word in some)))
            if rng.random() < 0.2:
                forms[1] = forms[0]
            told = parting_total(*forms)
            sizes = [many for many in (4, 8) for net in all_nets(many) if total(forms[0], net) != total(forms[1], net)]
            kinds[told and len(told[0])] = kinds.get(told and len(told[0]), 0) + 1
            if told is None:
                self.assertEqual(sizes, [])
            else:
                self.assertEqual(len(told[0]), sizes[0])
                self.assertTrue(is_joined(need_net(told)))
                self.assertNotEqual(total(forms[0], told), total(forms[1], told))
        # Cycles of one flag and of two: 8 flags are needed to see that halves of two words differ.
        low = (0, (("01", 1),))
        self.assertIsNone(parting_total(low, low))
        self.assertEqual(len(parting_total(low, (1, ()))[0]), 4)
        self.assertIn(4, kinds)
        self.assertIn(None, kinds)

    def test_totals_that_need_eight_flags(self):
        found = []
        words = [word for word in reduced_words_up_to(8) if word == class_word(word) and len(word) > 2]
        for at, word in enumerate(words):
            for other in words[:at]:
                forms = (0, ((word, 1),)), (0, ((other, 1),))
                if not found and all(total(forms[0], net) == total(forms[1], net) for net in all_nets(4)):
                    told = parting_total(*forms)
                    if told is not None:
                        found.append(told)
                        self.assertEqual(len(told[0]), 8)
                        self.assertNotEqual(total(forms[0], told), total(forms[1], told))
        self.assertEqual(len(found), 1)

    def test_wrong_values(self):
        for value in NO_WORDS:
            self.assertIsNone(self.told(BadWord, "place", class_word, value))
            self.assertIsNone(self.told(BadWord, "place", word_total, value))
        self.assertEqual(self.told(BadWord, "place", class_word, "01x"), 2)
        good = (0, ())
        for call in (need_form, lambda form: total(form, None), lambda form: form_sum(form, None),
                     lambda form: form_sum(good, form), lambda form: form_times(form, None),
                     lambda form: parting_total(form, None), lambda form: parting_total(good, form)):
            self.bad_forms(call)
        self.bad_nets(lambda net: total(good, net))
        for value in NO_INTEGERS:
            self.assertIs(self.told(BadNumber, "value", form_times, good, value), value)
        self.bad_pairs(pair_form)


class CountingTest(Case):

    def test_rounds_flag_by_flag(self):
        rng = random.Random(9)
        for deed in deeds_of_all_kinds(10, 70, 6):
            for net in [SPHERE, random_net(rng, 8), random_net(rng, 20)]:
                made = done_slowly(deed, net)
                for pair in PAIRS:
                    rows = [len(row) // 2 for row in rounds(made, tuple(pair))]
                    self.assertEqual(rounds_made(deed, net, pair), len(rows))
                    self.assertEqual(degree_counts(deed, net, pair), tuple(
                        (degree, rows.count(degree)) for degree in sorted(set(rows))))
                    form = count_form(deed, pair)
                    self.assertIs(need_form(form), form)
                    self.assertEqual(total(form, net), 2 * len(rows))
                    if len(made[0]) <= 960:
                        self.assertEqual(tuple(sorted(rows)), degrees(made, pair))

    def test_examples(self):
        self.assertEqual(count_form(SAME, "12"), (0, (("12", 1),)))
        self.assertEqual(count_form(HALF, "12"), (1, (("12", 1),)))
        self.assertEqual(count_form(HALF, "02"), (2, ()))
        self.assertEqual(count_form(CUT, "12"), (2, ()))
        self.assertEqual(count_form(NAMED["twist"], "01"), (0, (("012", 1),)))

    def test_closings_of_all_kinds(self):
        kinds = set()
        for deed in deeds_of_all_kinds(11, 200, 6):
            for pair in PAIRS:
                for kind, _, words in strips(deed, pair):
                    word = class_word("".join(words))
                    kinds.add((kind, word if len(word) < 2 else "02" if word == "02" else "long"))
                if len(strips(deed, pair)) == 1:
                    kind, cells, words = strips(deed, pair)[0]
                    word, twice = class_word("".join(words)), 2 if kind == "ring" else 1
                    told = {"": (2 * twice, ())}.get(word, (twice, ()))
                    if word not in ("", "0", "1", "2", "02"):
                        told = (0, ((word, twice),))
                    self.assertEqual(count_form(deed, pair), told)
        for kind in ("ring", "row"):
            for word in ("", "0", "1", "2", "02", "long"):
                # Two mirrors of a row make "" at most, or one of 0, 2, 02.
                if (kind, word) != ("row", "1"):
                    self.assertIn((kind, word), kinds)

    def test_pulled(self):
        rng = random.Random(12)
        words = sorted({class_word(random_word(rng, 7)) for _ in range(60)} - {"", "0", "1", "2", "02"})
        for deed in deeds_of_all_kinds(13, 60, 5):
            some = sorted(rng.sample(words, 3))
            form = (rng.randint(-3, 3), tuple((word, rng.choice((-2, -1, 1, 2))) for word in some))
            told = pulled(deed, form)
            self.assertIs(need_form(told), told)
            for net in [SPHERE, random_net(rng, 8), random_net(rng, 12)]:
                self.assertEqual(total(told, net), total(form, done_slowly(deed, net)))
            for pair in PAIRS:
                self.assertEqual(count_form(deed, pair), pulled(deed, pair_form(pair)))

    def test_one_after_another_and_alike(self):
        rng = random.Random(14)
        for _ in range(60):
            first, second = patched_deed(rng, rng.randint(1, 4), 3), random_deed(rng, 4)
            form = (rng.randint(-2, 2), (("01", 3), ("0121", -1), ("12", 1)))
            both = after_slowly(first, second)
            if max(len(word) for row in both for _, word in row) <= 60:
                self.assertEqual(pulled(both, form), pulled(first, pulled(second, form)))
            other = moved_slowly(first, [rewritten(random_word(rng, 4)) for _ in first[0]])
            self.assertEqual(pulled(other, form), pulled(first, form))
        self.assertEqual(pulled(SAME, (7, (("01", 10 ** 900),))), (7, (("01", 10 ** 900),)))

    def test_limits(self):
        word = "01" * 4500
        self.assertEqual(pulled(SAME, (0, ((word, 1),))), (0, ((word, 1),)))
        self.assertEqual(pulled(NAMED["spin"], (0, ((word, 1),))), (0, ((word, 1),)))
        self.assertEqual(self.told(TooGreat, "most", pulled, NAMED["twist"], (0, ((word, 1),))), 9000)
        fits = "01" * 3000
        self.assertEqual(pulled(NAMED["twist"], (0, ((fits, 1),))), (0, (("01" + "021" * 2999 + "2", 1),)))
        rng = random.Random(15)
        net = random_net(rng, 960)
        deed = patched_deed(rng, 48, 12)
        for pair in PAIRS:
            counts = degree_counts(deed, net, pair)
            self.assertEqual(2 * sum(degree * many for degree, many in counts), 960 * 48)
            self.assertEqual(sum(many for _, many in counts), rounds_made(deed, net, pair))
            self.assertEqual(total(count_form(deed, pair), net), 2 * rounds_made(deed, net, pair))
        self.assertEqual(degree_counts(deed, net, "02"), ((2, 960 * 12),))

    def test_wrong_values(self):
        for call in (lambda deed: count_form(deed, None), lambda deed: pulled(deed, None),
                     lambda deed: rounds_made(deed, None, None), lambda deed: degree_counts(deed, None, None)):
            self.bad_deeds(call)
        self.bad_pairs(lambda pair: count_form(HALF, pair))
        self.bad_forms(lambda form: pulled(HALF, form))
        for call in (rounds_made, degree_counts):
            self.bad_nets(lambda net: call(HALF, net, None))
            self.bad_pairs(lambda pair: call(HALF, SPHERE, pair))


class SizesTest(Case):

    def test_cycle_nets_step_by_step(self):
        rng = random.Random(16)
        words = reduced_words_up_to(4) + [random_word(rng, 12) for _ in range(60)]
        for word in words:
            kind = class_word(word)
            ones = kind.count("1")
            for many in (1, 2, 3, rng.randint(4, 30)):
                if kind in ("", "0", "1", "2", "02"):
                    if many != (1 if kind == "" else 2):
                        self.assertIsNone(cycle_net(word, many))
                        continue
                elif 4 * ones * many > 960:
                    self.assertEqual(self.told(TooGreat, "most", cycle_net, word, many), 960)
                    continue
                net, flag = cycle_net(word, many)
                need_net(net)
                self.one_cycle(net, flag, word, many)

    def one_cycle(self, net, flag, word, many):
        here = flag
        for step in range(1, many + 1):
            here = led(net, here, word)
            self.assertEqual(here == flag, step == many)

    def test_limits(self):
        net, flag = cycle_net("01", 240)
        self.assertEqual(len(net[0]), 960)
        self.one_cycle(net, flag, "01", 240)
        self.assertEqual(self.told(TooGreat, "most", cycle_net, "01", 241), 960)
        self.assertEqual(self.told(TooGreat, "most", cycle_net, "12" * 240 + "0" * 2, 2), 960)
        net, flag = cycle_net("12" * 240, 1)
        self.one_cycle(net, flag, "12" * 240, 1)
        tail = "01" * 3000
        net, flag = cycle_net(back(tail) + "12" + tail, 3)
        self.one_cycle(net, flag, back(tail) + "12" + tail, 3)
        self.assertIsNone(cycle_net("", 960))
        self.assertIsNone(cycle_net("0", 1))
        self.assertEqual(self.told(TooGreat, "most", cycle_net, "01" * 9999 + "02", 1), 960)

    def test_degrees(self):
        rng = random.Random(17)
        nets = list(all_nets(4)) + list(all_nets(8)) + [random_net(rng, 12) for _ in range(5)]
        for deed in deeds_of_all_kinds(18, 60, 6):
            for pair in PAIRS:
                fixed, steps = degrees_told(deed, pair)
                wanted = ([], [])
                for kind, cells, words in strips(deed, pair):
                    word, length = class_word("".join(words)), len(cells) // 2 if kind == "ring" else len(cells)
                    if word in ("", "0", "1", "2", "02"):
                        wanted[0].append(length if word == "" else 2 * length)
                    else:
                        wanted[1].append(length)
                self.assertEqual((fixed, steps), tuple(tuple(sorted(set(each))) for each in wanted))
                come = [set(degree for degree, _ in degree_counts(deed, net, pair)) for net in nets]
                for degree in range(1, 30):
                    comes = degree_comes(deed, pair, degree)
                    self.assertEqual(comes == "always", degree in fixed)
                    self.assertEqual(comes == "never", degree not in fixed and all(degree % step for step in steps))
                    if comes == "always":
                        self.assertTrue(all(degree in each for each in come))
                    elif comes == "never":
                        self.assertFalse(any(degree in each for each in come))
                    self.one_degree(deed, pair, degree, comes)
                divisor = common_divisor(deed, pair)
                self.assertTrue(all(degree % divisor == 0 for degree in fixed + steps))
                self.assertFalse(any(all(degree % (divisor * more) == 0 for degree in fixed + steps) for more in (2, 3, 5, 7)))

    def one_degree(self, deed, pair, degree, comes):
        if comes == "never":
            self.assertIsNone(degree_net(deed, pair, degree))
            return
        try:
            net, flag = degree_net(deed, pair, degree)
        except TooGreat as error:
            self.assertEqual((error.most, comes), (960, "sometimes"))
            for kind, cells, words in strips(deed, pair):
                word, length = class_word("".join(words)), len(cells) // 2 if kind == "ring" else len(cells)
                if degree % length == 0 and word not in ("", "0", "1", "2", "02"):
                    self.assertGreater(4 * word.count("1") * (degree // length), 960)
            return
        need_net(net)
        self.assertIn(flag, range(len(net[0]) * len(deed[0])))
        self.assertEqual(round_degree(deed, net, pair, flag), degree)

    def test_great_degrees(self):
        self.assertEqual(degree_comes(SAME, "12", 10 ** 30), "sometimes")
        self.assertEqual(degree_comes(MIDDLE, "12", 10 ** 30), "never")
        self.assertEqual(degree_comes(MIDDLE, "12", 4), "always")
        self.assertEqual(degree_comes(NAMED["twin"], "12", 10 ** 30 - 1), "never")
        self.assertEqual(degree_comes(NAMED["twin"], "12", 10 ** 30), "sometimes")
        self.assertIsNone(degree_net(MIDDLE, "12", 10 ** 30))
        self.assertEqual(self.told(TooGreat, "most", degree_net, SAME, "12", 10 ** 30), 960)
        net, flag = degree_net(SAME, "12", 240)
        self.assertEqual(round_degree(SAME, net, "12", flag), 240)
        self.assertEqual(self.told(TooGreat, "most", degree_net, SAME, "12", 241), 960)
        self.assertEqual(degrees_told(SAME, "02"), ((2,), ()))
        self.assertEqual(common_divisor(deed_named("raise"), "12"), 1)
        self.assertEqual(common_divisor(many_times(NAMED["twin"], 3), "12"), 8)
        # A strip whose degrees are fixed stands ahead of the one on which this degree comes.
        other = renumbered(HALF, (1, 0))
        self.assertEqual(degrees_told(other, "12"), ((2,), (1,)))
        for degree in (1, 3, 4, 6, 240):
            net, flag = degree_net(other, "12", degree)
            self.assertEqual(round_degree(other, net, "12", flag), degree)
        self.assertEqual(degree_comes(other, "12", 2), "always")
        self.assertEqual(round_degree(other, degree_net(other, "12", 2)[0], "12", degree_net(other, "12", 2)[1]), 2)
        # Of strips that are too great and others that are not, one of the others is taken.
        net, flag = degree_net(deed_named("raise"), "12", 480)
        self.assertEqual(round_degree(deed_named("raise"), net, "12", flag), 480)

    def test_wrong_values(self):
        for value in NO_WORDS:
            self.assertIsNone(self.told(BadWord, "place", cycle_net, value, None))
        for value in NO_INTEGERS + [0, -1, 961]:
            self.assertIs(self.told(BadNumber, "value", cycle_net, "01" * 5000, value), value)
        self.bad_deeds(lambda deed: degrees_told(deed, None))
        self.bad_deeds(lambda deed: common_divisor(deed, None))
        self.bad_pairs(lambda pair: degrees_told(HALF, pair))
        self.bad_pairs(lambda pair: common_divisor(HALF, pair))
        for call in (degree_comes, degree_net):
            self.bad_deeds(lambda deed: call(deed, None, None))
            self.bad_pairs(lambda pair: call(HALF, pair, None))
            for value in NO_INTEGERS + [0, -1, 10 ** 30 + 1]:
                self.assertIs(self.told(BadNumber, "value", call, HALF, "12", value), value)


class EulerTest(Case):

    def test_euler_forms(self):
        rng = random.Random(19)
        kept = 0
        for deed in deeds_of_all_kinds(20, 60, 6):
            form = euler_form(deed)
            self.assertIs(need_form(form), form)
            stays = True
            for net in list(all_nets(4)) + [random_net(rng, 8) for _ in range(4)] + [random_net(rng, 16)]:
                made = done_slowly(deed, net)
                self.assertEqual(total(form, net), 2 * euler_number(made))
                stays = stays and euler_number(made) == euler_number(net)
            self.assertIs(keeps_euler(deed), form == (-1, (("01", 1), ("12", 1))))
            if keeps_euler(deed):
                kept += 1
                self.assertTrue(stays)
        self.assertGreater(kept, 9)
        self.assertEqual(euler_form(SAME), (-1, (("01", 1), ("12", 1))))
        self.assertFalse(keeps_euler(NAMED["twist"]))

    def test_tables(self):
        rng = random.Random(21)
        counted = 0
        for deed in deeds_of_all_kinds(22, 80, 5):
            table = number_table(deed)
            words = {word for pair in ("12", "01") for word, _ in count_form(deed, pair)[1]}
            self.assertIs(table is None, not words <= {"01", "12"})
            if table is None:
                continue
            counted += 1
            for net in [SPHERE] + [random_net(rng, 12) for _ in range(3)]:
                old = [len(rounds(net, tuple(pair))) for pair in PAIRS]
                new = [len(rounds(done_slowly(deed, net), tuple(pair))) for pair in PAIRS]
                self.assertEqual(new, [sum(one * other for one, other in zip(row, old)) for row in table])
        self.assertGreater(counted, 12)
        self.assertEqual(number_table(HALF), ((1, 1, 0), (0, 2, 0), (0, 0, 1)))

    def test_tables_one_after_another(self):
        for first in ("half", "twin", "middle", "cut", "flip", "raise"):
            for second in ("half", "twin", "middle", "cut", "flip", "join"):
                both = after_slowly(deed_named(first), deed_named(second))
                self.assertEqual(numbers_then(number_table(deed_named(first)), number_table(deed_named(second))),
                                 number_table(both))
        great = ((10 ** 999, 0, -5), (1, 2, 3), (0, 0, 0))
        self.assertEqual(numbers_then(great, ((0, 1, 0), (1, 0, 0), (0, 0, 1))), (great[1], great[0], great[2]))

    def test_numbers_after(self):
        rng = random.Random(23)
        for _ in range(40):
            table = tuple(tuple(rng.randint(-4, 4) for _ in range(3)) for _ in range(3))
            counts = tuple(rng.randint(-9, 9) for _ in range(3))
            modulus = rng.randint(1, 50)
            slow = counts
            for times in range(12):
                self.assertEqual(numbers_after(table, counts, times, modulus), tuple(each % modulus for each in slow))
                slow = tuple(sum(one * other for one, other in zip(row, slow)) for row in table)
            # Great numbers of times: the rows come again modulo a small number.
            seen, at, rows = {}, 0, [tuple(each % 5 for each in counts)]
            while rows[-1] not in seen:
                seen[rows[-1]] = at
                at += 1
                rows.append(tuple(sum(one * other for one, other in zip(row, rows[-1])) % 5 for row in table))
            begin = seen[rows[-1]]
            for times in (10 ** 30, 10 ** 30 - 7, 3 ** 50):
                self.assertEqual(numbers_after(table, counts, times, 5), rows[begin + (times - begin) % (at - begin)])
        self.assertEqual(numbers_after(number_table(HALF), (1, 1, 1), 10, 1000), (24, 24, 1))
        self.assertEqual(numbers_after(number_table(HALF), (5, -3, 1), 0, 10 ** 30), (5, 10 ** 30 - 3, 1))
        self.assertEqual(numbers_after(number_table(HALF), (1, 1, 1), 10 ** 30, 1), (0, 0, 0))

    def test_wrong_values(self):
        self.bad_deeds(euler_form)
        self.bad_deeds(keeps_euler)
        self.bad_deeds(number_table)
        good = number_table(HALF)
        for value in OTHERS + [good[:2], good + good[:1], list(good), (list(good[0]), good[1], good[2]), (good[0], (1, 2), good[2]),
                               (good[0], good[1], (1, 2, True)), (good[0], good[1], (1, 2, None)), ((1, 2, "3"), good[1], good[2]),
                               (good[0], (1, True, 2), good[2]), ((None, 1, 2), good[1], good[2]), (good[0], (1, "2", 3), good[2]),
                               "abc", (1, 2, 3), (good[0], good[1], ((1,), 2, 3))]:
            for call in (lambda table: numbers_then(table, None), lambda table: numbers_then(good, table),
                         lambda table: numbers_then(table, good),
                         lambda table: numbers_after(table, None, None, None)):
                self.assertEqual(self.told(BadTable, "word", call, value), "numbers")
                self.assertIsNone(self.told(BadTable, "place", call, value))
        for value in OTHERS + [(1, 2), (1, 2, 3, 4), [1, 2, 3], (1, 2, True), (1, None, 2), (False, 1, 2), (1, 2, "3"), "123", good]:
            self.assertEqual(self.told(BadTable, "word", numbers_after, good, value, None, None), "counts")
        for value in NO_INTEGERS + [-1, 10 ** 30 + 1]:
            self.assertIs(self.told(BadNumber, "value", numbers_after, good, (1, 1, 1), value, None), value)
        for value in NO_INTEGERS + [0, -1, 10 ** 30 + 1]:
            self.assertIs(self.told(BadNumber, "value", numbers_after, good, (1, 1, 1), 0, value), value)


if __name__ == "__main__":
    unittest.main()
