"""Tests of meetings, coming, faults and witnesses."""

import random
import unittest

from common import (
    NO_INTEGERS, NO_WORDS, OTHERS, STRANGE, every_net, led, random_joined_net, random_net, random_word, reduced_words_up_to,
    rewritten)
from deed_common import APART, HOMELESS, NAMED, TWOFOLD, done_slowly, patched_deed, random_deed, walked_slowly
from netsredrawn.coming import first_net, flags_met, net_where, net_without
from netsredrawn.errors import BadDeed, BadName, BadNet, BadNumber, BadPair, BadWord, TooGreat
from netsredrawn.faults import FAULTS, fault_table, faults_made, faults_of, first_fault, is_clean
from netsredrawn.folding import folded
from netsredrawn.listing import all_nets
from netsredrawn.lots import holds
from netsredrawn.makers import deed_named
from netsredrawn.meetings import closings_of, crossing, is_place_pair, links, meeting
from netsredrawn.named import bundle, glued, grid, ring, solid
from netsredrawn.nets import beside, is_net
from netsredrawn.sequence import script_of
from netsredrawn.witnesses import cleaning, is_meeting_paper, meeting_paper
from netsredrawn.words import is_mirror, then

SPHERE = ((1, 0, 3, 2), (2, 3, 0, 1), (2, 3, 0, 1))
PAIRS = ("", "12", "02", "01")
NO_PAIRS = OTHERS + ["21", "10", "20", "0", "1", "012", "00", 12, ("1", "2"), ["12"], " "]
SAME = NAMED["same"]
SMALL = [net for many in (4, 8) for net in all_nets(many)]


def round_slowly(net, flag, pair):
    met = [flag]
    for here in met:
        for sign in pair:
            there = net[int(sign)][here]
            if there not in met:
                met.append(there)
    return set(met)


def met_slowly(deed, net, cell, walk, pair):
    """The flags of the net at which the walk meets, looked at in the made net."""
    made, many = done_slowly(deed, net), len(deed[0])
    return tuple(flag for flag in range(len(net[0]))
                 if led(made, flag * many + cell, walk) in round_slowly(made, flag * many + cell, pair))


def some_cases(seed, many, most=6):
    rng = random.Random(seed)
    for number in range(many):
        deed = random_deed(rng) if number % 2 else patched_deed(rng, rng.randint(1, 7), rng.randint(0, most))
        yield deed, rng.randrange(len(deed[0])), random_word(rng, 6), rng.choice(PAIRS)


class Told(unittest.TestCase):

    def told(self, error, attribute, call, *values):
        with self.assertRaises(error) as caught:
            call(*values)
        return getattr(caught.exception, attribute)

    def look_at_arguments(self, call, rest=()):
        """Looks at the errors of a deed, a cell, a walk and a pair, and at their order."""
        for value in OTHERS + [SAME[:2], list(SAME)]:
            self.assertEqual(self.told(BadDeed, "word", call, value, None, None, None, *rest), "form")
        self.assertEqual(self.told(BadDeed, "word", call, (((0, ""),),) * 3, 5, "3", "x", *rest), "still")
        for value in NO_INTEGERS + [-1, 2, 10 ** 30]:
            self.assertIs(self.told(BadNumber, "value", call, APART, value, None, None, *rest), value)
        for value in NO_WORDS:
            self.assertIsNone(self.told(BadWord, "place", call, APART, 1, value, "x", *rest))
        self.assertEqual(self.told(BadWord, "place", call, APART, 1, "01x", None, *rest), 2)
        for value in NO_PAIRS:
            self.assertIs(self.told(BadPair, "value", call, APART, 0, "01", value, *rest), value)


class MeetingsTest(Told):

    def test_pairs(self):
        for pair in PAIRS:
            self.assertIs(is_place_pair(pair), True)
        for value in NO_PAIRS:
            self.assertIs(is_place_pair(value), False)

    def test_known_circuits(self):
        self.assertEqual(closings_of(SAME, 0, "12"), ("1", "2"))
        self.assertEqual(closings_of(SAME, 0, "02"), ("0", "2"))
        self.assertEqual(closings_of(SAME, 0, "01"), ("0", "1"))
        self.assertEqual(closings_of(SAME, 0, ""), ())
        half, cut = NAMED["half"], NAMED["cut"]
        # The corners of half: old ones, and the middles of edges.
        self.assertEqual(closings_of(half, 0, "12"), ("1", "2"))
        self.assertEqual(closings_of(half, 1, "12"), ("0", "2"))
        # Its faces go from an old corner to the middle: change 0 leads to the other cell.
        self.assertEqual(links(half, 0, "01"), ((0, ""), (1, "")))
        self.assertEqual(closings_of(half, 0, "01"), ("0", "1"))
        self.assertEqual(closings_of(half, 1, "01"), ("1", "0"))
        self.assertEqual(links(half, 1, ""), ((1, ""),))
        self.assertEqual(closings_of(cut, 1, "12"), ("2", "2"))
        middle = NAMED["middle"]
        # Its corners are the old edges: change 1 stays in a cell, change 2 leads to the other one.
        self.assertEqual(closings_of(middle, 0, "12"), ("0", "2"))
        self.assertEqual(closings_of(middle, 1, "12"), ("2", "0"))

    def test_circuits_with_steps(self):
        kinds = {0: 0, 1: 0, 2: 0}
        for deed, cell, _, pair in some_cases(1, 400):
            told = dict(links(deed, cell, pair))
            closings = closings_of(deed, cell, pair)
            kinds[len(closings)] += 1
            self.assertEqual(told[cell], "")
            self.assertEqual(list(told), sorted(told))
            joined = {cell}
            for _ in deed[0]:
                for sign in pair:
                    joined |= {deed[int(sign)][each][0] for each in joined}
            self.assertEqual(set(told), joined)
            if len(closings) == 2:
                for word in closings:
                    self.assertTrue(is_mirror(word))
            # Each link is gathered by a walk of the two changes, and each closing by one that comes back.
            gathered = {}
            for start in (pair, pair[::-1]):
                walk = ""
                for _ in range(4 * len(deed[0]) + 4):
                    there, word = walked_slowly(deed, cell, walk)
                    gathered.setdefault(there, set()).add(word)
                    if pair:
                        walk += start[len(walk) % 2]
            for each in told:
                self.assertIn(told[each], gathered[each])
            for word in closings:
                self.assertIn(word, gathered[cell])
        self.assertGreater(min(kinds.values()), 30)

    def test_the_order_of_the_two_ways(self):
        # The first way goes by the first change of the pair, and ends where it stays.
        self.assertEqual(closings_of(SAME, 0, "12"), ("1", "2"))
        for deed, cell, _, pair in some_cases(2, 300):
            closings = closings_of(deed, cell, pair)
            if len(closings) == 2:
                for changes, closing in ((pair, closings[0]), (pair[::-1], closings[1])):
                    walk, here = "", cell
                    while deed[int(changes[len(walk) % 2])][here][0] != here:
                        here = deed[int(changes[len(walk) % 2])][here][0]
                        walk += changes[len(walk) % 2]
                    around = walk + changes[len(walk) % 2] + walk[::-1]
                    self.assertEqual(walked_slowly(deed, cell, around), (cell, closing))
                    there, link = walked_slowly(deed, cell, walk)
                    self.assertEqual(dict(links(deed, cell, pair))[there], link if there != cell else "")

    def test_rings_close_at_the_first_change(self):
        seen = set()
        for deed, cell, _, pair in some_cases(3, 600, 4):
            closings = closings_of(deed, cell, pair)
            if len(closings) == 1:
                cells = len(links(deed, cell, pair))
                walk = (pair * cells)[:cells]
                self.assertEqual(walked_slowly(deed, cell, walk), (cell, closings[0]))
                told = dict(links(deed, cell, pair))
                for many in range(cells):
                    there, link = walked_slowly(deed, cell, walk[:many])
                    self.assertEqual(told[there], link)
                seen.add(cells)
        self.assertGreater(len(seen), 1)

    def test_crossings(self):
        none = 0
        for deed, cell, walk, pair in some_cases(4, 400):
            there, gathered = walked_slowly(deed, cell, walk)
            told = dict(links(deed, cell, pair))
            if there in told:
                self.assertEqual(crossing(deed, cell, walk, pair), rewritten(gathered + told[there][::-1]))
            else:
                none += 1
                self.assertIsNone(crossing(deed, cell, walk, pair))
        self.assertGreater(none, 30)

    def test_meetings_with_made_nets(self):
        kinds = {}
        for deed, cell, walk, pair in some_cases(5, 250):
            told = meeting(deed, cell, walk, pair)
            met, unmet = 0, 0
            for net in SMALL:
                slow = met_slowly(deed, net, cell, walk, pair)
                self.assertEqual(flags_met(deed, net, cell, walk, pair), slow)
                met += len(slow)
                unmet += len(net[0]) - len(slow)
            kinds[told] = kinds.get(told, 0) + 1
            if told != "sometimes":
                self.assertEqual(met if told == "never" else unmet, 0)
            where, without = net_where_or_none(deed, cell, walk, pair), net_without_or_none(deed, cell, walk, pair)
            self.assertEqual(where is None, told == "never")
            self.assertEqual(without is None, told == "always")
            for place, meets in ((where, True), (without, False)):
                if place is not None:
                    self.assertTrue(is_net(place[0]))
                    self.assertEqual(place[1] in met_slowly(deed, place[0], cell, walk, pair), meets)
        self.assertGreater(min(kinds.values()), 20)

    def test_by_the_facts(self):
        # Every word of few characters, held against the lot and the tried words.
        for deed, cell in ((SAME, 0), (NAMED["half"], 1), (NAMED["cut"], 2), (NAMED["middle"], 0), (TWOFOLD, 1), (APART, 1)):
            for pair in PAIRS:
                closings = closings_of(deed, cell, pair)
                lot = folded(closings)
                for walk in reduced_words_up_to(6):
                    told = crossing(deed, cell, walk, pair)
                    tried = [] if told is None else [told]
                    for closing in closings:
                        tried += [then(word, closing) for word in tried]
                    if told is None or (not holds(lot, told) and all(is_mirror(word) for word in tried)):
                        want = "never"
                    else:
                        want = "always" if holds(lot, told) else "sometimes"
                    self.assertEqual(meeting(deed, cell, walk, pair), want)

    def test_known_meetings(self):
        # Around its corner a flag always comes back; across an edge a face may meet itself.
        self.assertEqual([meeting(SAME, 0, walk, "12") for walk in ("", "1", "2", "1212", "0", "10", "010")],
                         ["always", "always", "always", "always", "sometimes", "sometimes", "sometimes"])
        self.assertEqual([meeting(SAME, 0, walk, "") for walk in ("", "1", "02", "11", "12", "1212")],
                         ["always", "never", "never", "always", "sometimes", "sometimes"])
        self.assertEqual(meeting(NAMED["half"], 0, "0", "12"), "never")
        self.assertEqual(meeting(NAMED["half"], 0, "1" * 59, "12"), "always")

    def test_long_walks(self):
        for deed in (SAME, NAMED["cut"], NAMED["middle"]):
            for walk in ("012" * 20, "12" * 30, "01" * 30, "0212" * 15):
                for pair in PAIRS:
                    told = meeting(deed, 0, walk, pair)
                    self.assertIn(told, ("always", "never", "sometimes"))
                    slow = [met_slowly(deed, net, 0, walk, pair) for net in SMALL]
                    if told == "never":
                        self.assertEqual(set(slow), {()})
                    for net, flags in zip(SMALL, slow):
                        self.assertEqual(flags_met(deed, net, 0, walk, pair), flags)
                        if told == "always":
                            self.assertEqual(flags, tuple(range(len(net[0]))))

    def test_wrong_values(self):
        self.look_at_arguments(crossing)
        self.look_at_arguments(meeting)
        for call in (closings_of, links):
            for value in OTHERS:
                self.assertEqual(self.told(BadDeed, "word", call, value, None, None), "form")
            for value in NO_INTEGERS + [-1, 2]:
                self.assertIs(self.told(BadNumber, "value", call, APART, value, None), value)
            for value in NO_PAIRS:
                self.assertIs(self.told(BadPair, "value", call, APART, 1, value), value)


def net_where_or_none(*values):
    try:
        return net_where(*values)
    except TooGreat as error:
        assert error.most == 100 and great(*values)
        return SPHERE, met_slowly(values[0], SPHERE, *values[1:])[0]


def net_without_or_none(*values):
    try:
        return net_without(*values)
    except TooGreat as error:
        assert error.most == 100 and great(*values)
        raise


def great(deed, cell, walk, pair):
    """Whether the crossing is not short."""
    return len(crossing(deed, cell, walk, pair) + "".join(closings_of(deed, cell, pair))) > 100


class ComingTest(Told):

    def test_first_nets(self):
        found = {}
        for deed, cell, walk, pair in some_cases(6, 60):
            for many in (4, 8, 12):
                told = first_net(deed, cell, walk, pair, many)
                want = None
                for flags in range(4, many + 1, 4):
                    for net in all_nets(flags):
                        slow = met_slowly(deed, net, cell, walk, pair)
                        if slow and want is None:
                            want = (net, slow[0])
                self.assertEqual(told, want)
                found[want and len(want[0][0])] = True
        self.assertEqual(sorted(found, key=str)[-1], None)
        self.assertIn(4, found)

    def test_first_nets_of_more_flags(self):
        # A walk that is to go around four times, and not fewer: a corner of the degree 4.
        for times, flags in ((1, 4), (2, 4), (3, 12), (4, 8), (5, 12), (6, 12), (7, 16), (8, 16), (9, None), (11, None)):
            walk = "12" * times
            told = first_net(SAME, 0, walk, "", 16)
            if told is not None:
                self.assertTrue(met_slowly(SAME, told[0], 0, walk, ""))
            sizes = [many for many in (4, 8, 12, 16) if any(met_slowly(SAME, net, 0, walk, "") for net in all_nets(many))]
            self.assertEqual(sizes[:1], [] if told is None else [len(told[0][0])])
        self.assertIsNone(first_net(NAMED["half"], 0, "0", "12", 16))
        self.assertEqual(first_net(SAME, 0, "", "", 4), (all_nets(4)[0], 0))
        flips = "0121" * 5
        for many in (4, 8, 12, 16):
            told = first_net(SAME, 0, flips, "", many)
            want = [(net, met_slowly(SAME, net, 0, flips, "")) for flags in range(4, many + 1, 4) for net in all_nets(flags)]
            want = [(net, flags[0]) for net, flags in want if flags]
            self.assertEqual(told, want[0] if want else None)

    def test_nets_of_two_parts(self):
        rng = random.Random(7)
        for deed, cell, walk, pair in some_cases(8, 60):
            net = beside(random_joined_net(rng, 8), random_net(rng, 12))
            self.assertEqual(flags_met(deed, net, cell, walk, pair), met_slowly(deed, net, cell, walk, pair))

    def test_great_nets(self):
        rng = random.Random(9)
        deed = script_of((deed_named("cut"), deed_named("spread")))
        net = random_joined_net(rng, 960)
        made, many = done_slowly(deed, net), len(deed[0])
        for pair in ("12", "01"):
            told = flags_met(deed, net, 5, "0121", pair)
            for flag in rng.sample(range(960), 30):
                first = flag * many + 5
                self.assertEqual(flag in told, led(made, first, "0121") in round_slowly(made, first, pair))

    def test_short_crossings(self):
        # A crossing and two closings of one character each: 98 characters are short, 99 are not.
        for length, pair, short in ((98, "12", True), (99, "12", False), (100, "", True), (101, "", False)):
            walk = ("0121" * 30)[:length]
            walk = rewritten(walk)
            self.assertEqual(len(walk), length)
            told = len(crossing(SAME, 0, walk, pair)) + len("".join(closings_of(SAME, 0, pair)))
            self.assertEqual(told <= 100, short)
            for call in (net_where, net_without):
                if meeting(SAME, 0, walk, pair) == "never" and call is net_where:
                    continue
                if short:
                    net, flag = call(SAME, 0, walk, pair)
                    self.assertEqual(flag in met_slowly(SAME, net, 0, walk, pair), call is net_where)
                else:
                    self.assertEqual(self.told(TooGreat, "most", call, SAME, 0, walk, pair), 100)
            if meeting(SAME, 0, walk, pair) == "sometimes" and not short:
                self.assertEqual(self.told(TooGreat, "most", meeting_paper, SAME, 0, walk, pair), 100)

    def test_crossings_that_are_not_short(self):
        # Where it meets always or never, too: no net is told for such a crossing.
        deed = SAME
        always, never = "12" * 50, rewritten("01" * 30 + "2" + "10" * 30)
        self.assertEqual((meeting(deed, 0, always, "12"), meeting(deed, 0, never, "")), ("always", "never"))
        self.assertEqual(self.told(TooGreat, "most", net_where, deed, 0, always, "12"), 100)
        self.assertIsNone(net_without(deed, 0, always, "12"))
        self.assertIsNone(net_where(deed, 0, never, ""))
        self.assertEqual(self.told(TooGreat, "most", net_without, deed, 0, never, ""), 100)
        # Where there is no crossing, a net is told all the same.
        self.assertIsNone(crossing(NAMED["half"], 0, "0", "12"))
        self.assertIsNone(net_where(NAMED["half"], 0, "0", "12"))
        net, flag = net_without(NAMED["half"], 0, "0", "12")
        self.assertNotIn(flag, met_slowly(NAMED["half"], net, 0, "0", "12"))

    def test_closings_with_mirrors(self):
        # Closings that commute, that are the same, and one closing that is a mirror or nothing.
        counts = {}
        for deed, cell, walk, pair in some_cases(10, 900, 3):
            closings = closings_of(deed, cell, pair)
            kind = tuple(is_mirror(word) for word in closings), is_mirror(then(*closings)) if len(closings) == 2 else None
            if meeting(deed, cell, walk, pair) != "always" and crossing(deed, cell, walk, pair) is not None:
                net, flag = net_without(deed, cell, walk, pair)
                self.assertNotIn(flag, met_slowly(deed, net, cell, walk, pair))
                counts[kind] = counts.get(kind, 0) + 1
        self.assertGreater(len(counts), 3)

    def test_wrong_values(self):
        self.look_at_arguments(net_where)
        self.look_at_arguments(net_without)
        self.look_at_arguments(first_net, (None,))
        for value in NO_INTEGERS + [0, 3, 5, 6, 20, -4, 10 ** 30]:
            self.assertIs(self.told(BadNumber, "value", first_net, SAME, 0, "1", "12", value), value)
            self.assertEqual(self.told(BadPair, "value", first_net, SAME, 0, "1", "21", value), "21")
        for value in OTHERS:
            self.assertEqual(self.told(BadDeed, "word", flags_met, value, None, None, None, None), "form")
            self.assertEqual(self.told(BadNet, "word", flags_met, APART, value, None, None, None), "form")
        for value in NO_INTEGERS + [-1, 2]:
            self.assertIs(self.told(BadNumber, "value", flags_met, APART, SPHERE, value, None, None), value)
        for value in NO_WORDS:
            self.assertIsNone(self.told(BadWord, "place", flags_met, APART, SPHERE, 1, value, None))
        for value in NO_PAIRS:
            self.assertIs(self.told(BadPair, "value", flags_met, APART, SPHERE, 1, "0", value), value)


class FaultsTest(Told):

    def test_the_table(self):
        self.assertEqual(FAULTS, (
            ("loop", "0", "12"), ("wing", "2", "01"), ("spike", "12", ""), ("seam", "1212", ""), ("drop", "01", ""),
            ("lens", "0101", ""), ("pinch", "1212", "01"), ("chord", "010", "12")))

    def test_what_the_names_say(self):
        rng = random.Random(21)
        for net in SMALL + [random_net(rng, 4 * rng.randint(2, 8)) for _ in range(30)] + [solid("cube"), ring(3), bundle(4)]:
            rounds = {pair: [round_slowly(net, flag, pair) for flag in range(len(net[0]))] for pair in ("12", "01")}
            for flag in range(len(net[0])):
                corner, face = rounds["12"][flag], rounds["01"][flag]
                there = {"loop": net[0][flag] in corner, "wing": net[2][flag] in face,
                         "spike": len(corner) == 2, "seam": len(corner) in (2, 4),
                         "drop": len(face) == 2, "lens": len(face) in (2, 4),
                         "pinch": led(net, flag, "1212") in face, "chord": led(net, flag, "010") in corner}
                for name in there:
                    self.assertEqual(flag in faults_of(net, name), there[name], name)

    def test_known_faults(self):
        for name in ("tetra", "cube", "octa", "dodeca", "icosa"):
            for fault, _, _ in FAULTS:
                if fault not in ("pinch", "chord"):
                    self.assertEqual(faults_of(solid(name), fault), ())
        self.assertEqual(faults_of(ring(1), "loop"), (0, 1, 2, 3))
        self.assertEqual(faults_of(bundle(1), "wing"), (0, 1, 2, 3))
        self.assertEqual(faults_of(bundle(1), "spike"), (0, 1, 2, 3))
        self.assertEqual(faults_of(ring(1), "drop"), (0, 1, 2, 3))
        self.assertEqual(faults_of(bundle(3), "lens"), tuple(range(12)))
        self.assertEqual(faults_of(ring(3), "seam"), tuple(range(12)))
        self.assertEqual(faults_of(grid(1, 1), "loop"), tuple(range(8)))

    def test_rows_with_made_nets(self):
        rng = random.Random(22)
        deeds = list(NAMED.values()) + [APART, HOMELESS, TWOFOLD] + [random_deed(rng) for _ in range(10)]
        deeds += [patched_deed(rng, rng.randint(1, 6), rng.randint(0, 4)) for _ in range(10)]
        kinds = {}
        for deed in deeds:
            table = fault_table(deed)
            self.assertEqual([name for name, _ in table], [name for name, _, _ in FAULTS])
            for (name, row), (_, walk, pair) in zip(table, FAULTS):
                self.assertEqual(row, tuple(meeting(deed, cell, walk, pair) for cell in range(len(deed[0]))))
                self.assertIs(is_clean(deed, name), all(told == "never" for told in row))
                for told in row:
                    kinds[told] = kinds.get(told, 0) + 1
                for net in SMALL:
                    made, many = done_slowly(deed, net), len(deed[0])
                    told = faults_made(deed, net, name)
                    self.assertEqual(told, tuple(flag for flag in range(len(made[0])) if led(made, flag, walk)
                                                 in round_slowly(made, flag, pair)))
                    for cell, meets in enumerate(row):
                        flags = [flag for flag in told if flag % many == cell]
                        if meets != "sometimes":
                            self.assertEqual(len(flags), 0 if meets == "never" else len(net[0]))
        self.assertGreater(min(kinds.values()), 30)

    def test_first_faults(self):
        rng = random.Random(23)
        none = 0
        for deed in list(NAMED.values()) + [random_deed(rng) for _ in range(8)]:
            for net in SMALL[::2] + [solid("tetra"), beside(solid("cube"), ring(1))]:
                pairs = [(flag, number) for number, (name, _, _) in enumerate(FAULTS) for flag in faults_made(deed, net, name)]
                told = first_fault(deed, net)
                if pairs:
                    flag, number = min(pairs)
                    self.assertEqual(told, (flag, FAULTS[number][0]))
                else:
                    none += 1
                    self.assertIsNone(told)
        self.assertGreater(none, 0)

    def test_great_ones(self):
        deed = script_of((deed_named("cut"), deed_named("spread")))
        net = random_joined_net(random.Random(24), 960)
        for (name, walk, pair), (_, row) in zip(FAULTS, fault_table(deed)):
            told = faults_made(deed, net, name)
            for cell, meets in enumerate(row):
                flags = tuple(flag // 12 for flag in told if flag % 12 == cell)
                self.assertEqual(flags, flags_met(deed, net, cell, walk, pair))
                if meets != "sometimes":
                    self.assertEqual(len(flags), 0 if meets == "never" else 960)

    def test_wrong_values(self):
        for value in OTHERS:
            self.assertEqual(self.told(BadNet, "word", faults_of, value, None), "form")
            self.assertEqual(self.told(BadDeed, "word", fault_table, value), "form")
            self.assertEqual(self.told(BadDeed, "word", is_clean, value, None), "form")
            self.assertEqual(self.told(BadDeed, "word", faults_made, value, None, None), "form")
            self.assertEqual(self.told(BadDeed, "word", first_fault, value, None), "form")
            self.assertEqual(self.told(BadNet, "word", faults_made, APART, value, None), "form")
            self.assertEqual(self.told(BadNet, "word", first_fault, APART, value), "form")
        for value in OTHERS + ["", "Loop", "loops", "loop ", ("loop",), ["loop"], 0, "fault"]:
            self.assertIs(self.told(BadName, "name", faults_of, SPHERE, value), value)
            self.assertIs(self.told(BadName, "name", is_clean, APART, value), value)
            self.assertIs(self.told(BadName, "name", faults_made, APART, SPHERE, value), value)
            self.assertIs(self.told(BadName, "name", cleaning, APART, value), value)
        for value in OTHERS:
            self.assertEqual(self.told(BadDeed, "word", cleaning, value, None), "form")


class WitnessesTest(Told):

    def test_papers(self):
        kinds = {}
        for deed, cell, walk, pair in some_cases(31, 500):
            if great_or_none(deed, cell, walk, pair):
                continue
            told = meeting(deed, cell, walk, pair)
            paper = meeting_paper(deed, cell, walk, pair)
            kinds[paper[:2] if told == "never" else told] = kinds.get(paper[:2] if told == "never" else told, 0) + 1
            self.assertEqual(paper[0], told)
            self.assertIs(is_meeting_paper(deed, cell, walk, pair, paper), True)
            for right in (("never", "elsewhere"), ("never", "mirrors"), ("always", ())):
                want = told == right[0] and (right[1] == () and crossing(deed, cell, walk, pair) == ""
                                             or right[1] == ("elsewhere" if crossing(deed, cell, walk, pair) is None else "mirrors"))
                self.assertIs(is_meeting_paper(deed, cell, walk, pair, right), want)
            if told == "sometimes":
                _, where, without = paper
                self.assertIn(where[1], met_slowly(deed, where[0], cell, walk, pair))
                self.assertNotIn(without[1], met_slowly(deed, without[0], cell, walk, pair))
                self.assertIs(is_meeting_paper(deed, cell, walk, pair, (told, without, where)), False)
                self.assertIs(is_meeting_paper(deed, cell, walk, pair, (told, where, where)), False)
                self.assertIs(is_meeting_paper(deed, cell, walk, pair, (told, without, without)), False)
                self.spoil_places(deed, cell, walk, pair, where, without)
        self.assertEqual(len(kinds), 4)
        self.assertGreater(min(kinds.values()), 20)

    def spoil_places(self, deed, cell, walk, pair, where, without):
        net, flag = where
        for wrong in ((net, -1), (net, len(net[0])), (net, None), (net, True), (list(net), flag), (net[:2], flag), (net,),
                      [net, flag], (net, flag, flag), None, (net, (flag,)), net, ()):
            self.assertIs(is_meeting_paper(deed, cell, walk, pair, ("sometimes", wrong, without)), False)
            self.assertIs(is_meeting_paper(deed, cell, walk, pair, ("sometimes", where, wrong)), False)
        for wrong in (("sometimes", where), ("sometimes",), ("sometimes", where, without, 0), ["sometimes", where, without],
                      ("always", where, without), ("never", where, without), (None, where, without),
                      ("other", where, without), ("", where, without)):
            self.assertIs(is_meeting_paper(deed, cell, walk, pair, wrong), False)
        for number in range(len(net[0])):
            right = number in met_slowly(deed, net, cell, walk, pair)
            self.assertIs(is_meeting_paper(deed, cell, walk, pair, ("sometimes", (net, number), without)), right)
            self.assertIs(is_meeting_paper(deed, cell, walk, pair, ("sometimes", where, (net, number))), not right)

    def test_papers_of_always(self):
        seen = set()
        for deed, cell, walk, pair in some_cases(32, 500, 3):
            if meeting(deed, cell, walk, pair) != "always":
                continue
            paper = meeting_paper(deed, cell, walk, pair)[1]
            seen.add(len(paper))
            for wrong in (("always", list(paper)), ("always",), ("always", paper, 0), ["always", paper], ("sometimes", paper),
                          ("always", None), ("always", "paper"), ("always", paper + (("word", 12),)),
                          ("always", paper + (("word",),)), ("always", paper + (("back", len(paper)),)),
                          ("always", paper + (["word", 0],))):
                self.assertIs(is_meeting_paper(deed, cell, walk, pair, wrong), False)
            if paper:
                self.assertIs(is_meeting_paper(deed, cell, walk, pair, ("always", paper[:-1])), False)
        self.assertGreater(len(seen), 2)
        self.assertIs(is_meeting_paper(SAME, 0, "1212", "12", ("always", (("word", 0), ("word", 1), ("then", 0, 1), ("then", 2, 2)))), True)
        self.assertIs(is_meeting_paper(SAME, 0, "1212", "12", ("always", (("word", 0), ("word", 1), ("then", 1, 0), ("then", 2, 2)))), False)
        self.assertIs(is_meeting_paper(SAME, 0, "2121", "12", ("always", (("word", 0), ("word", 1), ("then", 1, 0), ("then", 2, 2)))), True)
        # A word that is there already may be told once more: fifty thousand rows may stand there, no more.
        rows = (("word", 1),) * 49999 + (("word", 0),)
        self.assertIs(is_meeting_paper(SAME, 0, "1", "12", ("always", rows)), True)
        self.assertIs(is_meeting_paper(SAME, 0, "1", "12", ("always", rows + (("word", 0),))), False)
        # No row tells a word of more than 5,000 characters.
        double = (("word", 0), ("word", 1), ("then", 0, 1)) + tuple(("then", at, at) for at in range(2, 14))
        home = (("back", 13), ("then", 13, 15), ("word", 0))
        self.assertIs(is_meeting_paper(SAME, 0, "1", "12", ("always", double[:14] + (("back", 13), ("word", 0)))), True)
        self.assertIs(is_meeting_paper(SAME, 0, "1", "12", ("always", double + home)), False)

    def test_long_crossings(self):
        # Up to 300 characters in all the paper is told, and taken.
        rng = random.Random(33)
        for many in (1, 3, 9, 14):
            mirror = rewritten("01" * many + "2" + "10" * many)
            deed = (((0, mirror),), ((0, "1"),), ((0, rewritten("01" * many + "0" + "10" * many)),))
            for walk in ("02" * 3, "0", "2", "12" * 2 if many < 9 else "02"):
                for pair in ("02", "12", "01"):
                    if meeting(deed, 0, walk, pair) == "always":
                        paper = meeting_paper(deed, 0, walk, pair)
                        self.assertIs(is_meeting_paper(deed, 0, walk, pair, paper), True)
        for _ in range(30):
            walk = "".join(rng.choice(("12", "21", "1", "2")) for _ in range(rng.randint(0, 60)))
            self.assertIs(is_meeting_paper(SAME, 0, walk, "12", meeting_paper(SAME, 0, walk, "12")), True)
        walk = "12" * 149
        self.assertIs(is_meeting_paper(SAME, 0, walk, "12", meeting_paper(SAME, 0, walk, "12")), True)

    def test_values_of_any_kind(self):
        for walk, pair in (("0", "12"), ("1", "12"), ("1", "")):
            for value in OTHERS + ["always", ("always",), ("never",), ("never", None), ("never", ("mirrors",)), ("never", STRANGE),
                                   (STRANGE, ()), ("other", ()), ("sometimes", None, None), ("never", "mirror"), ["never", "mirrors"],
                                   ("never", "mirrors", 0)]:
                self.assertIs(is_meeting_paper(SAME, 0, walk, pair, value), False)
        self.assertIs(is_meeting_paper(SAME, 0, "1", "", ("never", "mirrors")), True)
        self.assertIs(is_meeting_paper(SAME, 0, "1", "", ("never", "elsewhere")), False)
        self.assertIs(is_meeting_paper(NAMED["half"], 0, "0", "12", ("never", "elsewhere")), True)
        self.assertIs(is_meeting_paper(NAMED["half"], 0, "0", "12", ("never", "mirrors")), False)

    def test_cleaning(self):
        rng = random.Random(34)
        kinds = {}
        for deed in list(NAMED.values()) + [APART, TWOFOLD] + [random_deed(rng, 6) for _ in range(20)]:
            for (name, walk, pair), (_, row) in zip(FAULTS, fault_table(deed)):
                told = cleaning(deed, name)
                kinds[told is None] = kinds.get(told is None, 0) + 1
                self.assertEqual(told is None, is_clean(deed, name))
                if told is not None:
                    cell, net, flag = told
                    self.assertEqual(cell, [at for at, meets in enumerate(row) if meets != "never"][0])
                    self.assertIn(flag, met_slowly(deed, net, cell, walk, pair))
        self.assertGreater(min(kinds.values()), 20)
        mirror = rewritten("01" * 14 + "2" + "10" * 14)
        great_deed = (((0, mirror),), ((0, "1"),), ((0, rewritten("01" * 14 + "0" + "10" * 14)),))
        self.assertGreater(len(crossing(great_deed, 0, "12", "") * 2), 100)
        self.assertEqual(self.told(TooGreat, "most", cleaning, great_deed, "seam"), 100)
        self.assertEqual(self.told(TooGreat, "most", meeting_paper, great_deed, 0, "1212", ""), 100)

    def test_wrong_values(self):
        self.look_at_arguments(meeting_paper)
        self.look_at_arguments(is_meeting_paper, (None,))


def great_or_none(deed, cell, walk, pair):
    told = crossing(deed, cell, walk, pair)
    return told is not None and great(deed, cell, walk, pair)


if __name__ == "__main__":
    unittest.main()
