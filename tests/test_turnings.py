"""Tests of parting and turnings."""

import random
import unittest

from common import NO_INTEGERS, OTHERS, every_net, random_net
from deed_common import (
    APART, HOMELESS, NAMED, TWOFOLD, TWOFOLD_OF_SIX, after_slowly, done_slowly, moved_slowly, one_cell, patched_deed)
from netsredrawn.errors import BadDeed, BadNumber, NotWhole, TooGreat
from netsredrawn.homes import is_whole_deed
from netsredrawn.listing import all_nets
from netsredrawn.makers import NAMES, deed_named
from netsredrawn.moving import moved
from netsredrawn.parting import first_parting
from netsredrawn.plainlist import plain_deeds
from netsredrawn.renamings import all_renamings, are_alike_deeds
from netsredrawn.sequence import many_times
from netsredrawn.shapes import are_alike
from netsredrawn.turnings import TURN_NAMES, blind_to, cell_lots, own_renamings, taken_up

HALF, CUT, MIDDLE, SAME = (NAMED[name] for name in ("half", "cut", "middle", "same"))
TURN_DEEDS = [NAMED[name] for name in ("same", "flip", "twist", "spin", "wheel", "unwheel")]


class Case(unittest.TestCase):

    def told(self, error, attribute, call, *values):
        with self.assertRaises(error) as caught:
            call(*values)
        return getattr(caught.exception, attribute) if attribute else None

    def bad_deeds(self, call):
        for value in OTHERS + [(), list(SAME), HALF[:2], one_cell("0", "1", "20"), "012", 3]:
            self.assertEqual(self.told(BadDeed, "word", call, value), "form")
        self.assertEqual(self.told(BadDeed, "word", call, one_cell("0", "1", "0")), "apart")


def whole_deeds(seed, number, most):
    rng = random.Random(seed)
    found = []
    while len(found) < number:
        deed = patched_deed(rng, rng.randint(1, most), rng.randint(0, 3))
        if is_whole_deed(deed):
            found.append(deed)
    return found


class PartingTest(Case):

    def test_first_net(self):
        rng = random.Random(1)
        deeds = [patched_deed(rng, 2, 3) for _ in range(8)] + list(plain_deeds(2)) + [HOMELESS, APART]
        kinds = {}
        for _ in range(60):
            first, second = rng.choice(deeds), rng.choice(deeds)
            if rng.random() < 0.3:
                second = rng.choice((first, moved_slowly(first, ["1", "0"])))
            most = rng.choice((4, 8, 12))
            told = first_parting(first, second, most)
            wanted = None
            for many in range(4, most + 1, 4):
                for net in all_nets(many):
                    if wanted is None and not are_alike(done_slowly(first, net), done_slowly(second, net)):
                        wanted = net
            self.assertEqual(told, wanted)
            kinds[told and len(told[0])] = kinds.get(told and len(told[0]), 0) + 1
        self.assertGreater(kinds[4], 3)
        self.assertGreater(kinds[None], 3)

    def test_alike_deeds_are_never_parted(self):
        # [51]
        for deed in whole_deeds(2, 10, 4):
            other = moved(deed, ("12",) * len(deed[0])) if max(len(w) for row in deed for _, w in row) < 50 else deed
            self.assertTrue(are_alike_deeds(deed, other))
            self.assertIsNone(first_parting(deed, other, 8))

    def test_unlike_numbers_of_cells(self):
        self.assertEqual(first_parting(HALF, CUT, 4), all_nets(4)[0])
        self.assertEqual(first_parting(APART, CUT, 12), all_nets(4)[0])
        self.assertIsNone(first_parting(HALF, HALF, 12))

    def test_nets_of_more_flags(self):
        plain = plain_deeds(2)
        for first, second, many in ((plain[1], plain[2], 8), (plain[7], plain[9], 8), (SAME, NAMED["wheel"], 4),
                                    (one_cell("0", "010", "2"), one_cell("0", "121212121", "2"), 12)):
            for most in (4, 8, 12):
                told = first_parting(first, second, most)
                if most < many:
                    self.assertIsNone(told)
                else:
                    self.assertEqual(len(told[0]), many)
                    self.assertFalse(are_alike(done_slowly(first, told), done_slowly(second, told)))
        for first in TURN_DEEDS:
            for second in TURN_DEEDS:
                self.assertIs(first_parting(first, second, 12) is None, first == second)
        long = moved(SAME, ("1" + "01" * 14,))
        self.assertIsNone(first_parting(long, SAME, 12))

    def test_wrong_values(self):
        self.bad_deeds(lambda deed: first_parting(deed, None, None))
        self.bad_deeds(lambda deed: first_parting(HALF, deed, None))
        for value in NO_INTEGERS + [0, 16, 5, -4, (4,)]:
            self.assertIs(self.told(BadNumber, "value", first_parting, HALF, HALF, value), value)


class TurningsTest(Case):

    def test_names(self):
        self.assertEqual(TURN_NAMES, NAMES[:6])
        self.assertEqual([deed_named(name) for name in TURN_NAMES], TURN_DEEDS)

    def test_taken_up_and_blind(self):
        deeds = whole_deeds(3, 25, 5) + list(plain_deeds(2)) + [TWOFOLD] + [deed_named(name) for name in NAMES]
        kept = 0
        for deed in deeds:
            told = taken_up(deed)
            self.assertEqual(len(told), 6)
            for number, turn in enumerate(TURN_DEEDS):
                first = after_slowly(turn, deed)
                fits = [other for other in range(6) if are_alike_deeds(first, after_slowly(deed, TURN_DEEDS[other]))]
                self.assertEqual(told[number], min(fits, default=None))
                kept += len(fits)
            blind = tuple(number for number in range(6) if are_alike_deeds(after_slowly(TURN_DEEDS[number], deed), deed))
            self.assertEqual(blind_to(deed), blind)
            self.assertIn(0, blind)
        self.assertGreater(kept, 60)
        self.assertEqual(taken_up(HALF), (0,) + (None,) * 5)
        self.assertEqual(taken_up(MIDDLE), (0, 0) + (None,) * 4)
        self.assertEqual(blind_to(MIDDLE), (0, 1))
        self.assertEqual(taken_up(NAMED["flip"]), (0, 1, 3, 2, 5, 4))

    def test_blind_deeds_make_alike_nets(self):
        rng = random.Random(4)
        for name in ("middle", "join", "spread", "bevel"):
            deed = deed_named(name)
            for net in list(every_net(4)) + [random_net(rng, 12)]:
                turned = done_slowly(NAMED["flip"], net)
                self.assertTrue(are_alike(done_slowly(deed, net), done_slowly(deed, turned)))

    def test_each_whole_deed_of_one_cell_is_a_turn(self):
        for deed in whole_deeds(5, 40, 1):
            self.assertEqual(len([turn for turn in TURN_DEEDS if are_alike_deeds(deed, turn)]), 1)

    def test_too_great(self):
        # Doubled by "twist" ahead of it, or by the deed's own words behind it.
        fits = moved(SAME, ("01" * 14,))
        self.assertEqual(max(len(row[0][1]) for row in fits), 57)
        self.assertEqual(self.told(TooGreat, "most", taken_up, fits), 60)
        self.assertEqual(self.told(TooGreat, "most", blind_to, fits), 60)
        # A turn ahead makes no word too long, but what "02" walks is too long.
        behind = moved(TWOFOLD_OF_SIX, ("01" * 18, "", "", "", "21" * 18, ""))
        self.assertEqual(blind_to(behind), blind_to(TWOFOLD_OF_SIX))
        self.assertEqual(self.told(TooGreat, "most", taken_up, behind), 60)
        # "twist" makes 60 characters of 40.
        rest = ("",) * 5
        sixty = moved(TWOFOLD_OF_SIX, ("01" * 20,) + rest)
        self.assertEqual(max(len(word) for row in after_slowly(NAMED["twist"], sixty) for _, word in row), 60)
        self.assertEqual(taken_up(sixty), taken_up(TWOFOLD_OF_SIX))
        self.assertEqual(blind_to(sixty), blind_to(TWOFOLD_OF_SIX))
        more = moved(TWOFOLD_OF_SIX, ("1" + "01" * 20,) + rest)
        self.assertEqual(max(len(word) for row in after_slowly(NAMED["twist"], more) for _, word in row), 62)
        self.assertEqual(self.told(TooGreat, "most", taken_up, more), 60)
        self.assertEqual(self.told(TooGreat, "most", blind_to, more), 60)
        shorter = moved(SAME, ("01" * 9,))
        self.assertEqual(taken_up(shorter), (0, 1, 2, 3, 4, 5))
        self.assertEqual(blind_to(shorter), (0,))

    def test_own_renamings(self):
        for deed in whole_deeds(7, 30, 6) + [TWOFOLD, TWOFOLD_OF_SIX] + [deed_named(name) for name in NAMES]:
            told = own_renamings(deed)
            self.assertEqual(told, all_renamings(deed, deed))
            rows = {cells for cells, _ in told}
            # One after another they are such renamings again.
            for one in rows:
                for other in rows:
                    self.assertIn(tuple(other[cell] for cell in one), rows)
            lots = cell_lots(deed)
            self.assertEqual(sorted(cell for lot in lots for cell in lot), list(range(len(deed[0]))))
            self.assertEqual([lot[0] for lot in lots], sorted(lot[0] for lot in lots))
            for lot in lots:
                self.assertEqual(len(lot), len(told))
                self.assertEqual(lot, tuple(sorted({cells[lot[0]] for cells in rows})))
        self.assertEqual(len(own_renamings(TWOFOLD)), 2)
        self.assertEqual(len(cell_lots(TWOFOLD_OF_SIX)), 3)
        self.assertEqual(own_renamings(SAME), (((0,), ("",)),))
        self.assertEqual(cell_lots(many_times(CUT, 3)), tuple((cell,) for cell in range(27)))

    def test_wrong_values(self):
        for call in (taken_up, blind_to, own_renamings, cell_lots):
            self.bad_deeds(call)
            for deed in (APART, HOMELESS):
                self.assertRaises(NotWhole, call, deed)
        # What is not whole is told ahead of what is too great.
        words = ["01" * 14, "01" * 14]
        deed = moved(HOMELESS, tuple(words))
        self.assertRaises(NotWhole, taken_up, deed)
        self.assertRaises(NotWhole, blind_to, deed)


if __name__ == "__main__":
    unittest.main()
