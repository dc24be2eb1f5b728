"""Tests of least, renamings, refusing and plainlist."""

import itertools
import random
import unittest

from common import NO_INTEGERS, OTHERS, STRANGE, every_net, led, random_net, random_word, reduced_words_up_to, rewritten
from deed_common import (
    APART, HOMELESS, NAMED, TWOFOLD, TWOFOLD_OF_SIX, after_slowly, done_slowly, fault_slowly, few_gathered,
    moved_slowly, one_cell, patched_deed, random_deed, walked_slowly)
from netsredrawn.deeds import rule_broken
from netsredrawn.errors import BadDeed, BadFlag, BadNet, BadNumber, BadPaper, BadRenaming, NotWhole, TooGreat
from netsredrawn.homes import homes, is_whole_deed
from netsredrawn.least import least_deed, weight
from netsredrawn.makers import NAMES, deed_named
from netsredrawn.moving import moved, renumbered
from netsredrawn.plainlist import plain_deeds
from netsredrawn.refusing import need_refusal, refusals
from netsredrawn.renamings import all_renamings, are_alike_deeds, image_flag, need_renaming, renaming
from netsredrawn.sequence import many_times
from netsredrawn.shapes import are_alike, is_likeness
from netsredrawn.walks import walk_order

HALF, CUT, MIDDLE, SAME = (NAMED[name] for name in ("half", "cut", "middle", "same"))


def back(word):
    return rewritten(word[::-1])


def signs_of(deed):
    return sum(len(word) for row in deed for _, word in row)


def weight_slowly(deed):
    return sum(word.count("1") for row in deed for _, word in row)


def renumbered_slowly(deed, order):
    return tuple(tuple((order.index(row[cell][0]), row[cell][1]) for cell in order) for row in deed)


def walked_form(deed, root, word):
    """The walked form from a cell in which the word moves all cells alike."""
    walks = {root: ""}
    order = [root]
    for cell in order:
        for change in range(3):
            there = deed[change][cell][0]
            if there not in walks:
                walks[there] = walks[cell] + str(change)
                order.append(there)
    words = [rewritten(back(walked_slowly(deed, root, walks[cell])[1]) + word) for cell in range(len(deed[0]))]
    return renumbered_slowly(moved_slowly(deed, words), order)


def is_renaming_slowly(deed, other, cells, words):
    """Whether every step is led as [18] tells."""
    for row, other_row in zip(deed, other):
        for cell, (there, word) in enumerate(row):
            if other_row[cells[cell]] != (cells[there], rewritten(back(words[cell]) + word + words[there])):
                return False
    return True


def refused_row(deed, other, told_homes, cell, row):
    """Whether a row of a refusal is right, as [49] tells."""
    ends = [walked_slowly(other, cell, walk) for walk in told_homes]
    if row[0] == "away":
        return ends[row[1]][0] != cell
    if any(end != cell for end, _ in ends):
        return False
    if row == ("class",):
        return not any(rewritten(back(word) + "1" + word) == ends[1][1] for word in movers_of(ends[1][1]))
    for mover, walk in row[1:]:
        if mover != rewritten(mover) or rewritten(back(mover) + "1" + mover) != ends[1][1]:
            return False
        end, word = walked_slowly(deed, 0, walk)
        if end != 0 or walked_slowly(other, cell, walk) == (cell, rewritten(back(mover) + word + mover)):
            return False
    return row[1][0] != row[2][0]


def movers_of(word):
    """Words among which each one is that moves "1" to the word, if any does: its ends."""
    return [word[at:] for at in range(len(word) + 1)] + ["1" + word[at:] for at in range(len(word) + 1)]


class Case(unittest.TestCase):

    def told(self, error, attribute, call, *values):
        with self.assertRaises(error) as caught:
            call(*values)
        return getattr(caught.exception, attribute) if attribute else None

    def bad_deeds(self, call):
        for value in OTHERS + [(), list(SAME), HALF[:2], one_cell("0", "1", "20"), "012", 3]:
            self.assertEqual(self.told(BadDeed, "word", call, value), "form")
        self.assertEqual(self.told(BadDeed, "word", call, one_cell("0", "1", "0")), "apart")

    def two_whole(self, call):
        """A call with two deeds tells what is no deed, then what is not whole."""
        self.bad_deeds(lambda deed: call(deed, None))
        self.bad_deeds(lambda deed: call(APART, deed))
        for first, second in ((APART, HALF), (HALF, APART), (HOMELESS, CUT), (CUT, HOMELESS), (APART, APART)):
            self.assertRaises(NotWhole, call, first, second)


def disguised(rng, deed, most=6):
    """The deed, renumbered and moved."""
    order = tuple(rng.sample(range(len(deed[0])), len(deed[0])))
    words = [rewritten(random_word(rng, most)) for _ in order]
    other = moved_slowly(renumbered_slowly(deed, order), words)
    return other if fault_slowly(other) is None else deed


def whole_deeds(seed, number, most=6):
    rng = random.Random(seed)
    found = []
    while len(found) < number:
        deed = patched_deed(rng, rng.randint(1, most), rng.randint(0, 4)) if rng.random() < 0.6 else random_deed(rng, most)
        if len(deed[0]) <= most and is_whole_deed(deed):
            found.append(deed)
    return found


class LeastTest(Case):

    def test_weight(self):
        rng = random.Random(1)
        for _ in range(50):
            deed = patched_deed(rng, rng.randint(1, 9), 5)
            self.assertEqual(weight(deed), weight_slowly(deed))
        self.assertEqual([weight(NAMED[name]) for name in ("same", "half", "middle", "cut")], [1, 1, 2, 2])
        self.assertEqual(weight(APART), 6)

    def test_against_all_short_words(self):
        short = reduced_words_up_to(6)
        for deed in whole_deeds(2, 60, 4):
            forms = [walked_form(deed, root, word) for root in range(len(deed[0])) for word in short]
            least = min((weight_slowly(form), signs_of(form), form) for form in forms)
            told = least_deed(deed)
            self.assertLessEqual((weight(told), signs_of(told), told), least)
            # The word that moves is short, if the words are.
            if max(len(word) for row in deed for _, word in row) <= 4:
                self.assertEqual(told, least[2])

    def test_no_form_is_less(self):
        # Among these are deeds of which many forms have the same weight.
        level = [
            (((0, "1021"), (1, "0"), (2, "02"), (3, "0210102")), ((3, "0121"), (2, "021"), (1, "102"), (0, "1210")),
             ((2, "102"), (3, "2102"), (0, "021"), (1, "0212"))),
            (((1, "0102"), (0, "0210")), ((0, "01212121210"), (1, "01210")), ((1, "2102"), (0, "0212"))),
            (((1, "012"), (0, "210"), (3, "2"), (2, "2")), ((0, "1021"), (3, "2102"), (2, "010"), (1, "0212")),
             ((2, "01021"), (3, "012"), (0, "10210"), (1, "210")))]
        rng = random.Random(22)
        words = reduced_words_up_to(9)
        while len(level) < 40:
            deed = patched_deed(rng, rng.randint(2, 4), 8)
            if is_whole_deed(deed):
                level.append(deed)
        many = 0
        for deed in level:
            told = least_deed(deed)
            key = (weight_slowly(told), signs_of(told), told)
            for root in range(len(deed[0])):
                for word in words:
                    form = walked_form(told, root, word)
                    self.assertLessEqual(key, (weight_slowly(form), signs_of(form), form))
                    many += weight_slowly(form) == key[0]
        self.assertGreater(many, 4 * sum(len(deed[0]) for deed in level))

    def test_walked_form_and_alike(self):
        rng = random.Random(3)
        for deed in whole_deeds(4, 40, 9) + [TWOFOLD, TWOFOLD_OF_SIX]:
            told = least_deed(deed)
            self.assertEqual(walk_order(told, 0), tuple(range(len(told[0]))))
            self.assertEqual(walked_form(told, 0, ""), told)
            self.assertTrue(are_alike_deeds(deed, told))
            self.assertEqual(least_deed(told), told)
            self.assertEqual(least_deed(disguised(rng, deed)), told)

    def test_named_ones(self):
        for name in ("same", "flip", "twist", "spin", "wheel", "unwheel", "twin", "middle", "cut"):
            self.assertEqual(least_deed(NAMED[name]), NAMED[name])
        self.assertEqual(least_deed(HALF), (((1, ""), (0, "")), ((0, "0"), (1, "1")), ((0, "2"), (1, "2"))))
        for name in NAMES:
            self.assertEqual(weight(least_deed(deed_named(name))), 1 if len(deed_named(name)[0]) == 1 or name in (
                "half", "twin") else 2)
        long = moved(SAME, ("1" + "01" * 14,))
        self.assertEqual(least_deed(long), SAME)

    def test_great_ones(self):
        rng = random.Random(5)
        deed = many_times(CUT, 3)
        told = least_deed(deed)
        self.assertEqual(least_deed(disguised(rng, deed, 5)), told)
        deed = patched_deed(rng, 48, 0)
        while not is_whole_deed(deed):
            deed = patched_deed(rng, 48, 0)
        self.assertEqual(least_deed(disguised(rng, deed, 20)), least_deed(deed))

    def test_too_great(self):
        rng = random.Random(6)
        kinds = {True: 0, False: 0}
        while min(kinds.values()) < 1:
            deed = patched_deed(rng, 24, 8)
            if is_whole_deed(deed):
                try:
                    told = least_deed(deed)
                    kinds[True] += 1
                    self.assertIsNone(rule_broken(told))
                except TooGreat as error:
                    kinds[False] += 1
                    self.assertEqual(error.most, 60)

    def test_wrong_values(self):
        self.bad_deeds(weight)
        self.bad_deeds(least_deed)
        self.assertRaises(NotWhole, least_deed, APART)
        self.assertRaises(NotWhole, least_deed, HOMELESS)


class PlainTest(Case):

    def plain_tables(self, many):
        """All deeds among all plain tables of so many cells."""
        steps = [(cell, word) for cell in range(many) for word in ("", "0", "1", "2")]
        rows = [row for row in itertools.product(steps, repeat=many)
                if all(row[there] == (cell, word) and (there != cell or word) for cell, (there, word) in enumerate(row))]
        for deed in itertools.product(rows, repeat=3):
            if fault_slowly(deed) is None:
                yield deed

    def test_one_by_one(self):
        for many in (1, 2):
            found = set()
            for deed in self.plain_tables(many):
                gathered = few_gathered(deed, 0, 6)
                joined = len(walk_order(deed, 0)) == many
                whole = joined and all(sign in gathered for sign in "012")
                self.assertIs(is_whole_deed(deed), whole)
                if whole:
                    forms = [walked_form(deed, root, word) for root in range(many) for word in reduced_words_up_to(4)]
                    found.add(min((weight_slowly(form), signs_of(form), form) for form in forms)[2])
            self.assertEqual(plain_deeds(many), tuple(sorted(found)))
        self.assertEqual(plain_deeds(1), (SAME, NAMED["flip"]))
        self.assertEqual(len(plain_deeds(2)), 14)
        self.assertTrue(all(least_deed(deed) == deed for deed in plain_deeds(2)))

    def test_wrong_values(self):
        for value in NO_INTEGERS + [0, 3, -1, 10 ** 30]:
            self.assertIs(self.told(BadNumber, "value", plain_deeds, value), value)


class RenamingsTest(Case):

    def test_against_all_short_words(self):
        rng = random.Random(7)
        short = reduced_words_up_to(3)
        pairs = []
        for deed in whole_deeds(8, 25, 2) + list(plain_deeds(2)):
            pairs += [(deed, disguised(rng, deed, 2)), (deed, rng.choice(plain_deeds(len(deed[0])))), (deed, deed)]
        for deed, other in pairs:
            many = len(deed[0])
            found = all_renamings(deed, other)
            tried = [(cells, words) for cells in itertools.permutations(range(many))
                     for words in itertools.product(short, repeat=many) if is_renaming_slowly(deed, other, cells, words)]
            self.assertEqual([told for told in found if max(len(word) for word in told[1]) <= 3],
                             sorted(tried, key=lambda told: told[0][0]))
            self.assertTrue(all(is_renaming_slowly(deed, other, *told) for told in found))

    def test_disguised_ones(self):
        rng = random.Random(9)
        for deed in whole_deeds(10, 60, 8) + [TWOFOLD, TWOFOLD_OF_SIX]:
            other = disguised(rng, deed)
            found = all_renamings(deed, other)
            self.assertIn(renaming(deed, other), found)
            self.assertIs(are_alike_deeds(deed, other), True)
            self.assertEqual([cells[0] for cells, _ in found], sorted({cells[0] for cells, _ in found}))
            for told in found:
                self.assertTrue(is_renaming_slowly(deed, other, *told))
                self.assertIs(need_renaming(deed, other, told), told)
            self.assertEqual(len(found), len(all_renamings(deed, deed)))
            self.assertTrue(is_renaming_slowly(deed, least_deed(deed), *renaming(deed, least_deed(deed))))
        self.assertEqual(len(all_renamings(TWOFOLD, TWOFOLD)), 2)
        self.assertEqual(len(all_renamings(TWOFOLD_OF_SIX, TWOFOLD_OF_SIX)), 2)
        self.assertEqual(all_renamings(SAME, SAME), (((0,), ("",)),))

    def test_unlike_ones(self):
        self.assertIsNone(renaming(HALF, MIDDLE))
        self.assertEqual(all_renamings(HALF, MIDDLE), ())
        self.assertIs(are_alike_deeds(HALF, MIDDLE), False)
        self.assertIsNone(renaming(HALF, CUT))
        self.assertEqual(all_renamings(HALF, CUT), ())
        self.assertIs(are_alike_deeds(HALF, CUT), False)
        turns = [NAMED[name] for name in NAMES[:6]]
        for first, second in itertools.product(turns, repeat=2):
            self.assertIs(are_alike_deeds(first, second), first == second)

    def test_alike_deeds_make_alike_nets(self):
        # [51], and the likeness of [18] flag by flag.
        rng = random.Random(11)
        for deed in whole_deeds(12, 30, 6) + [TWOFOLD]:
            other = disguised(rng, deed)
            for net in list(every_net(4))[:2] + [random_net(rng, 12)]:
                made, other_made = done_slowly(deed, net), done_slowly(other, net)
                self.assertTrue(are_alike(made, other_made))
                for told in all_renamings(deed, other):
                    images = tuple(image_flag(deed, other, told, net, flag) for flag in range(len(made[0])))
                    self.assertTrue(is_likeness(made, other_made, images))

    def test_unlike_deeds_part_some_net(self):
        rng = random.Random(13)
        nets = list(every_net(8)) + [random_net(rng, 12) for _ in range(20)]
        deeds = list(plain_deeds(2))
        for first, second in itertools.combinations(deeds, 2):
            self.assertFalse(are_alike_deeds(first, second))
            self.assertTrue(any(not are_alike(done_slowly(first, net), done_slowly(second, net)) for net in nets))

    def test_great_images(self):
        rng = random.Random(14)
        net = random_net(rng, 960)
        deed = many_times(CUT, 3)
        other = disguised(rng, deed)
        told = renaming(deed, other)
        for _ in range(20):
            flag = rng.randrange(960 * 27)
            image = image_flag(deed, other, told, net, flag)
            self.assertEqual(image, led(net, flag // 27, told[1][flag % 27]) * 27 + told[0][flag % 27])
        self.assertEqual(self.told(BadFlag, "flag", image_flag, deed, other, told, net, 960 * 27), 960 * 27)

    def test_long_words_may_be_told_and_passed(self):
        deed = moved(SAME, ("1" + "01" * 14,))
        other = moved(SAME, ("1" + "21" * 14,))
        told = renaming(deed, other)
        self.assertEqual(len(told[1][0]), 56)
        self.assertIs(need_renaming(deed, other, told), told)
        self.assertEqual(self.told(BadRenaming, "cell", need_renaming, SAME, SAME, ((0,), ("01" * 10000,))), 0)
        self.assertIsNone(self.told(BadRenaming, "cell", need_renaming, SAME, SAME, ((0,), ("01" * 10000 + "0",))))

    def test_wrong_values(self):
        self.two_whole(renaming)
        self.two_whole(all_renamings)
        self.two_whole(are_alike_deeds)
        self.two_whole(lambda first, second: need_renaming(first, second, None))
        self.two_whole(lambda first, second: image_flag(first, second, None, None, None))
        right = ((0, 1), ("", ""))
        self.assertIs(need_renaming(HALF, HALF, right), right)
        form = OTHERS + [
            right[:1], right + ((),), list(right), ([0, 1], ("", "")), ((0, 1), ["", ""]), ((0, 0), ("", "")), ((0, 2), ("", "")),
            ((0,), ("",)), ((0, 1, 2), ("", "", "")), ((False, True), ("", "")), ((0, 1), ("",)), ((0, 1), ("", "", "")),
            ((0, 1), ("", None)), ((0, 1), ("", 0)), ((0, 1), ("", "3")), ((0, 1), ("", "00")), ((0, 1), ("20", "")),
            ((0, "1"), ("", "")), ((0, (1,)), ("", "")), ("01", ("", "")), ((0, 1), "01"), ((0, 1), (("",), ""))]
        for value in form:
            self.assertIsNone(self.told(BadRenaming, "cell", need_renaming, HALF, HALF, value))
            self.assertIsNone(self.told(BadRenaming, "cell", image_flag, HALF, HALF, value, None, None))
        self.assertIsNone(self.told(BadRenaming, "cell", need_renaming, HALF, CUT, right))
        self.assertEqual(self.told(BadRenaming, "cell", need_renaming, HALF, HALF, ((0, 1), ("", "2"))), 0)
        self.assertEqual(self.told(BadRenaming, "cell", need_renaming, CUT, CUT, ((0, 1, 2), ("", "", "0"))), 1)
        self.assertEqual(self.told(BadRenaming, "cell", need_renaming, HALF, HALF, ((1, 0), ("", ""))), 0)
        for value in OTHERS:
            self.assertEqual(self.told(BadNet, "word", image_flag, HALF, HALF, right, value, None), "form")
        net = next(every_net(4))
        for value in NO_INTEGERS + [-1, 8]:
            self.assertIs(self.told(BadFlag, "flag", image_flag, HALF, HALF, right, net, value), value)

    def test_first_cell_led_wrongly(self):
        rng = random.Random(15)
        for deed in whole_deeds(16, 80, 6):
            other = disguised(rng, deed)
            cells, words = renaming(deed, other)
            words = list(words)
            words[rng.randrange(len(words))] = rewritten(random_word(rng, 4))
            wrong = [cell for cell in range(len(words)) if any(
                other[change][cells[cell]] != (cells[deed[change][cell][0]], rewritten(
                    back(words[cell]) + deed[change][cell][1] + words[deed[change][cell][0]])) for change in range(3))]
            value = (cells, tuple(words))
            if wrong:
                self.assertEqual(self.told(BadRenaming, "cell", need_renaming, deed, other, value), wrong[0])
            else:
                self.assertIs(need_renaming(deed, other, value), value)


class RefusingTest(Case):

    def pairs(self):
        rng = random.Random(17)
        deeds = whole_deeds(18, 160, 4) + list(plain_deeds(2)) + [NAMED[name] for name in NAMES[:10]] + [TWOFOLD]
        deeds += [disguised(rng, deed) for deed in deeds[:40]]
        for _ in range(500):
            first = rng.choice(deeds)
            yield first, rng.choice([deed for deed in deeds if len(deed[0]) == len(first[0])])

    def test_refusals_are_right(self):
        kinds = {"away": 0, "class": 0, "walks": 0, None: 0}
        for first, second in self.pairs():
            told = refusals(first, second)
            self.assertIs(told is None, least_deed(first) == least_deed(second))
            if told is None:
                kinds[None] += 1
                continue
            self.assertIs(need_refusal(first, second, told), told)
            walks, rows = told
            for sign, walk in zip("012", walks):
                self.assertEqual(walked_slowly(first, 0, walk), (0, sign))
            self.assertEqual(len(rows), len(second[0]))
            for cell, row in enumerate(rows):
                kinds[row[0]] += 1
                self.assertTrue(refused_row(first, second, walks, cell, row))
        self.assertGreater(min(kinds.values()), 5, kinds)

    def test_wrong_rows(self):
        rng = random.Random(19)
        kinds = {True: 0, False: 0}
        for first, second in self.pairs():
            told = refusals(first, second)
            if told is None:
                continue
            walks, rows = told
            cell = rng.randrange(len(rows))
            row = rows[cell]
            others = [("away", 0), ("away", 1), ("away", 2), ("class",)]
            if row[0] == "walks":
                (u, one), (v, two) = row[1:]
                others += [("walks", (v, two), (u, one)), ("walks", (u, two), (v, one)), ("walks", (u, one), (u, one)),
                           ("walks", (u + "00", one), (v, two)), ("walks", (u, ""), (v, two)),
                           ("walks", (u, one + "11"), (v, "22" + two)), ("walks", (u, one + "2"), (v, two))]
            else:
                others += [("walks", ("", "0"), ("1", "0")), ("walks", ("", walks[0]), ("1", walks[0]))]
            for other in others:
                value = (walks, rows[:cell] + (other,) + rows[cell + 1:])
                right = refused_row(first, second, walks, cell, other)
                kinds[right] += 1
                if right:
                    self.assertIs(need_refusal(first, second, value), value)
                else:
                    self.assertEqual(self.told(BadPaper, "word", need_refusal, first, second, value), "rows")
        self.assertGreater(min(kinds.values()), 50, kinds)

    def test_homes_need_not_be_reduced(self):
        walks, rows = refusals(HALF, MIDDLE)
        value = (tuple(walk + "11" for walk in walks), rows)
        self.assertIs(need_refusal(HALF, MIDDLE, value), value)
        for wrong in ((walks[1], walks[0], walks[2]), (walks[0], walks[1], walks[2] + "1"), ("", "", "")):
            self.assertEqual(self.told(BadPaper, "word", need_refusal, HALF, MIDDLE, (wrong, rows)), "homes")
            # homes are looked at ahead of rows
            self.assertEqual(self.told(BadPaper, "word", need_refusal, HALF, MIDDLE, (wrong, (("away", 0),) * 2)), "homes")

    def test_none_for_alike_ones(self):
        rng = random.Random(20)
        for deed in whole_deeds(21, 20, 6):
            other = disguised(rng, deed)
            self.assertIsNone(refusals(deed, other))
            told = homes(deed)
            value = (told, (("class",),) * len(deed[0]))
            self.assertEqual(self.told(BadPaper, "word", need_refusal, deed, other, value), "rows")

    def test_wrong_values(self):
        self.two_whole(refusals)
        self.two_whole(lambda first, second: need_refusal(first, second, None))
        self.assertEqual(self.told(BadPaper, "word", refusals, HALF, CUT), "cells")
        self.assertEqual(self.told(BadPaper, "word", need_refusal, HALF, CUT, None), "cells")
        walks, rows = refusals(HALF, MIDDLE)
        row = ("walks", ("", "0"), ("1", "0"))
        wrong_rows = OTHERS + [(), "away", ("away",), ("away", 3), ("away", -1), ("away", True), ("away", "0"), ("away", 0, 0),
                               ("class", 0), ["class"], (("class",),), ("walks",), row[:2], row + (("", ""),), ("other",),
                               ("walk",) + row[1:], (b"walks",) + row[1:],
                               ("walks", ("", "0"), ("1",)), ("walks", ("", "0"), ["1", "0"]), ("walks", ("", "3"), ("1", "0")),
                               ("walks", ("", 0), ("1", "0")), ("walks", (None, "0"), ("1", "0")), (STRANGE,), (None, 0)]
        for wrong in wrong_rows:
            for value in ((walks, (wrong,) + rows[1:]), (walks, rows[:1] + (wrong,)), (("", "", ""), (wrong, wrong))):
                self.assertEqual(self.told(BadPaper, "word", need_refusal, HALF, MIDDLE, value), "form")
        for value in OTHERS + [(walks,), (walks, rows, rows), [walks, rows], (walks, list(rows)), (list(walks), rows),
                               (walks[:2], rows), (walks + ("",), rows), (walks, rows[:1]), (walks, rows + rows[:1]),
                               (("0", "1", "3"), rows), (("0", "1", 2), rows), ("012", rows), (walks, "ab")]:
            self.assertEqual(self.told(BadPaper, "word", need_refusal, HALF, MIDDLE, value), "form")

    def test_great_ones(self):
        first, second = many_times(HALF, 4), many_times(NAMED["twin"], 4)
        told = refusals(first, second)
        self.assertIs(need_refusal(first, second, told), told)
        self.assertIsNone(refusals(first, renumbered(first, tuple(range(15, -1, -1)))))


if __name__ == "__main__":
    unittest.main()
