"""Tests of sources and books."""

import itertools
import random
import unittest
import unittest.mock

from common import NO_INTEGERS, OTHERS, STRANGE, led, random_joined_net, random_word, rewritten
from deed_common import (
    APART, HOMELESS, NAMED, TWOFOLD, TWOFOLD_OF_SIX, after_slowly, done_slowly, fault_slowly, moved_slowly, patched_deed,
    random_deed, walked_slowly)
from netsredrawn import barring
from netsredrawn.books import need_book, script_deed
from netsredrawn.errors import BadDeed, BadNet, BadPaper, BadScript, NotJoined, NotWhole, TooGreat
from netsredrawn.homes import is_whole_deed
from netsredrawn.least import least_deed
from netsredrawn.listing import all_nets
from netsredrawn.makers import deed_named
from netsredrawn.moving import renumbered
from netsredrawn.named import grid, ring, solid, twisted_grid
from netsredrawn.nets import beside, is_net
from netsredrawn.renamings import are_alike_deeds
from netsredrawn.sequence import after, script_of
from netsredrawn.shapes import is_likeness, least_net
from netsredrawn.sources import comes_of, deed_sources, need_refusal_to_come, refusal_to_come, sources
from netsredrawn.words import is_mirror

SPHERE = ((1, 0, 3, 2), (2, 3, 0, 1), (2, 3, 0, 1))
SAME, HALF, TWIN, CUT = NAMED["same"], NAMED["half"], NAMED["twin"], NAMED["cut"]
SMALL = [net for many in (4, 8) for net in all_nets(many)]


class Told(unittest.TestCase):

    def told(self, error, attribute, call, *values):
        with self.assertRaises(error) as caught:
            call(*values)
        return getattr(caught.exception, attribute)


def whole_deed(rng, most=6):
    while True:
        deed = rng.choice((random_deed(rng, 8), patched_deed(rng, rng.randint(1, most), rng.randint(0, 4))))
        if is_whole_deed(deed):
            return deed


def shuffled_net(rng, net):
    order = rng.sample(range(len(net[0])), len(net[0]))
    place = {old: new for new, old in enumerate(order)}
    return tuple(tuple(place[row[old]] for old in order) for row in net)


class SourcesTest(Told):

    def look_at_sources(self, deed, net):
        told = sources(deed, net)
        self.assertEqual([source for source, _ in told], sorted(source for source, _ in told))
        self.assertEqual(len({source for source, _ in told}), len(told))
        self.assertLessEqual(len(told), len(deed[0]))
        for source, images in told:
            self.assertTrue(is_net(source))
            self.assertEqual(least_net(source), source)
            self.assertTrue(is_likeness(done_slowly(deed, source), net, images))
        self.assertIs(comes_of(deed, net), told != ())
        paper = refusal_to_come(deed, net)
        self.assertEqual(paper is None, told != ())
        if paper is not None:
            self.assertIs(need_refusal_to_come(deed, net, paper), paper)
            self.look_at_rows(deed, net, paper)
        return [source for source, _ in told], paper

    def look_at_rows(self, deed, net, paper):
        self.assertEqual(len(paper), len(net[0]))
        for flag, row in enumerate(paper):
            self.assertTrue(is_right_row(deed, net, flag, row))

    def test_what_was_done(self):
        rng = random.Random(1)
        counts = {}
        for _ in range(120):
            deed = whole_deed(rng)
            net = random_joined_net(rng, 4 * rng.randint(1, 4))
            found, _ = self.look_at_sources(deed, shuffled_net(rng, done_slowly(deed, net)))
            self.assertIn(least_net(net), found)
            counts[len(found)] = True
        self.assertGreater(len(counts), 1)

    def test_all_sources_of_small_nets(self):
        rng = random.Random(2)
        counts = {0: 0, 1: 0, 2: 0}
        kinds = {}
        for deed in [HALF, TWIN, CUT, NAMED["middle"], NAMED["wheel"], TWOFOLD] + [whole_deed(rng, 4) for _ in range(14)]:
            made = [(net, least_net(done_slowly(deed, net))) for net in SMALL]
            many = len(deed[0])
            targets = [form for _, form in made] + [random_joined_net(rng, many * rng.choice((4, 8))) for _ in range(5)]
            targets += [net for net in all_nets(12) + all_nets(16) if len(net[0]) in (4 * many, 8 * many)][:40]
            for target in targets:
                found, paper = self.look_at_sources(deed, target)
                want = [net for net, form in made if form == least_net(target)]
                if len(target[0]) // many in (4, 8):
                    self.assertEqual(found, sorted(want))
                    counts[len(found)] += 1
                for kind, _ in paper or ():
                    kinds[kind] = kinds.get(kind, 0) + 1
        self.assertGreater(min(counts.values()), 1)
        self.assertEqual(sorted(kinds), ["away", "mirror", "moved"])
        self.assertGreater(min(kinds.values()), 5)

    def test_known_sources(self):
        # The cube comes of the tetrahedron by no deed of these; the octahedron is the middle of the tetrahedron.
        self.assertEqual([source for source, _ in sources(NAMED["middle"], solid("octa"))], [least_net(solid("tetra"))])
        self.assertEqual(sources(HALF, solid("cube")), ())
        self.assertEqual([source for source, _ in sources(HALF, ring(8))], [least_net(ring(4))])
        self.assertEqual([source for source, _ in sources(NAMED["flip"], solid("octa"))], [least_net(solid("cube"))])
        middle = sources(NAMED["middle"], done_slowly(NAMED["middle"], solid("cube")))
        self.assertEqual([source for source, _ in middle], sorted(least_net(solid(name)) for name in ("cube", "octa")))
        # The number of cells does not divide the number of flags.
        self.assertIs(comes_of(CUT, ring(4)), False)
        self.assertEqual(sources(CUT, ring(4)), ())
        self.assertEqual({kind for kind, _ in refusal_to_come(CUT, ring(4))}, {"away"})

    def test_great_nets(self):
        rng = random.Random(3)
        for deed, net in ((HALF, grid(6, 10)), (CUT, twisted_grid(5, 8)), (SAME, random_joined_net(rng, 960)),
                          (script_of((deed_named("cut"), deed_named("spread"))), random_joined_net(rng, 80))):
            made = done_slowly(deed, net)
            self.assertLessEqual(len(made[0]), 960)
            found, _ = self.look_at_sources(deed, shuffled_net(rng, made))
            self.assertIn(least_net(net), found)
        for deed in (HALF, CUT, NAMED["middle"], TWOFOLD_OF_SIX):
            _, paper = self.look_at_sources(deed, random_joined_net(rng, 960))
            self.assertTrue(all(len(walk) <= 20000 for _, walk in paper))

    def test_no_limit_of_short_ones(self):
        # Deeds of up to twelve cells with homes of at most twelve characters, and nets of 200 flags.
        rng = random.Random(4)
        deeds = [script_of((deed_named("cut"), deed_named("spread"))), TWOFOLD_OF_SIX, TWOFOLD]
        walks = [""]
        for walk in walks:
            walks += [walk + sign for sign in "012" if len(walk) < 12 and rewritten(walk + sign) == walk + sign]
        while len(deeds) < 9:
            deed = patched_deed(rng, rng.randint(4, 12), rng.randint(2, 20))
            gathered = {walked_slowly(deed, 0, walk) for walk in walks} if is_whole_deed(deed) else {}
            if all((0, sign) in gathered for sign in "012"):
                deeds.append(deed)
        kinds = set()
        for deed in deeds:
            many = len(deed[0])
            self.look_at_sources(deed, random_joined_net(rng, 200))
            base = done_slowly(deed, random_joined_net(rng, 200 // many // 4 * 4))
            for _ in range(4):
                # Made, and then spoilt: two pairs of change 1 are joined crosswise.
                one = list(base[1])
                low, high = rng.sample(range(len(one)), 2)
                if high not in (low, one[low]):
                    other, last = one[low], one[high]
                    one[low], one[high], one[other], one[last] = high, low, last, other
                spoilt = (base[0], tuple(one), base[2])
                if is_net(spoilt) and is_joined_slowly(spoilt):
                    _, paper = self.look_at_sources(deed, spoilt)
                    kinds |= {kind for kind, _ in paper or ()}
        self.assertIn("away", kinds)

    def test_walks_made_of_homes(self):
        # Walks by which flags come together are told first; those made of homes have a bound.
        rng = random.Random(7)
        kinds = {}
        deeds = [HALF, TWIN, CUT, NAMED["middle"], NAMED["wheel"], TWOFOLD, SAME]
        nets = list(all_nets(8) + all_nets(12)) + [random_joined_net(rng, 16) for _ in range(10)]
        for deed, net in itertools.product(deeds, nets):
            for cells in barring.all_cells(barring.net_steps(net), deed):
                flags = [flag for flag, cell in enumerate(cells) if cell == 0]
                rows = barring._homely_rows(net, deed, flags)
                self.assertEqual(rows is None, sources_with(deed, net, flags[0]))
                if rows is not None:
                    self.assertEqual(sorted(rows), flags)
                    for flag in flags:
                        kinds[rows[flag][0]] = kinds.get(rows[flag][0], 0) + 1
                        self.assertTrue(is_right_row(deed, net, flag, rows[flag]))
        self.assertEqual(sorted(kinds), ["mirror", "moved"])
        self.assertGreater(min(kinds.values()), 10)
        with self.assertRaises(TooGreat):
            barring._homely_rows(SPHERE, HOMELESS, [0])
        self.assertEqual(self.told(TooGreat, "most", barring._limited, "0" * 20001), 20000)
        self.assertEqual(barring._limited("0" * 20000), "0" * 20000)

    def test_what_is_made_of_no_nets(self):
        # What a deed makes of a triple that is no net may be one all the same: no change leads a flag to itself
        # there. Then no source is told by way of this triple, but a mirror is.
        rng = random.Random(8)
        kinds = {}
        while len(kinds) < 4 or min(kinds.values()) < 5:
            deed = whole_deed(rng, 8)
            loose = loose_triple(rng, rng.choice((2, 3, 4, 6)))
            still = [sign for sign, row in zip(("0", "1", "2", "02"), loose + (tuple(loose[2][there] for there in loose[0]),))
                     if any(flag == there for flag, there in enumerate(row))]
            made = done_slowly(deed, loose)
            if len(still) != 1 or not is_net(made) or not is_joined_slowly(made):
                continue
            kinds[still[0]] = kinds.get(still[0], 0) + 1
            found, paper = self.look_at_sources(deed, made)
            if paper is not None:
                self.assertIn("mirror", {kind for kind, _ in paper})

    def test_walks_that_are_too_long(self):
        # With another limit it is seen that walks made of homes are told where others are too long.
        deeds = (HALF, TWIN, CUT, NAMED["middle"], TWOFOLD)
        seen = {}
        for deed, net in itertools.product(deeds, all_nets(8) + all_nets(12)):
            paper = refusal_to_come(deed, net)
            longest = max(len(walk) for _, walk in paper) if paper else 0
            with unittest.mock.patch("netsredrawn.barring.MOST_SIGNS", longest):
                self.assertEqual(refusal_to_come(deed, net), paper)
            if longest > 0:
                with unittest.mock.patch("netsredrawn.barring.MOST_SIGNS", longest - 1):
                    try:
                        other = refusal_to_come(deed, net)
                    except TooGreat as error:
                        self.assertEqual(error.most, longest - 1)
                        seen["too great"] = True
                    else:
                        seen["other"] = True
                        self.look_at_rows(deed, net, other)
                        self.assertLess(max(len(walk) for _, walk in other), longest)
        self.assertIn("too great", seen)
        self.assertIn("other", seen)

    def test_short_walks(self):
        walks = [""]
        for walk in walks:
            walks += [walk + sign for sign in "012" if len(walk) < 13 and rewritten(walk + sign) == walk + sign]
        for deed in (HALF, CUT):
            gathered = {}
            for walk in walks:
                there, word = walked_slowly(deed, 0, walk)
                if there == 0:
                    gathered.setdefault(word, walk)
            told = barring._short_walks(deed)
            self.assertEqual(set(told), {word for word in gathered if len(gathered[word]) <= 12})
            self.assertIn(13, {len(walk) for walk in gathered.values()})
            for word, walk in told.items():
                self.assertEqual((walked_slowly(deed, 0, walk), len(walk)), ((0, word), len(gathered[word])))

    def test_short_homes(self):
        rng = random.Random(9)
        kinds = set()
        while len(kinds) < 8:
            deed = patched_deed(rng, rng.randint(2, 7), rng.randint(1, 8))
            if is_whole_deed(deed):
                walks = barring._short_walks(deed)
                kinds.add(tuple(sign in walks for sign in "012"))
                told = barring._short_homes(deed)
                if all(sign in walks for sign in "012"):
                    self.assertEqual([walked_slowly(deed, 0, walk) for walk in told], [(0, "0"), (0, "1"), (0, "2")])
                else:
                    self.assertIsNone(told)

    def test_papers(self):
        # Of a ring of three edges by "half": steps come back to the other cell.
        net = ring(3)
        paper = refusal_to_come(HALF, net)
        for value in OTHERS + [list(paper), paper[:-1], paper + (paper[0],), "paper", (("away", "0"),), (None,) * 12,
                               ("away",) * 12, (("away",),) * 12, (["away", "0"],) * 12, (("away", "0", "0"),) * 12,
                               (("gone", "0"),) * 12, ((None, "0"),) * 12, (("away", None),) * 12, (("away", "3"),) * 12,
                               (("away", ("0",)),) * 12, ((STRANGE, "0"),) * 12, (("away", 0),) * 12,
                               (("walk", ""),) * 12, ((["away"], "0"),) * 12]:
            self.assertEqual(self.told(BadPaper, "word", need_refusal_to_come, HALF, net, value), "form")
        for flag in range(12):
            for wrong in ("form", "walk"):
                row = (paper[flag][0], "0x" if wrong == "form" else "")
                spoilt = paper[:flag] + (row,) + paper[flag + 1:]
                self.assertEqual(self.told(BadPaper, "word", need_refusal_to_come, HALF, net, spoilt), wrong)
            # The form of all rows is looked at ahead of their walks.
            spoilt = (("away", ""),) + paper[1:11] + (("away", "a"),)
            self.assertEqual(self.told(BadPaper, "word", need_refusal_to_come, HALF, net, spoilt), "form")

    def test_each_kind_spoilt(self):
        rng = random.Random(5)
        kinds = {}
        nets = list(all_nets(8) + all_nets(12)) + [random_joined_net(rng, 16) for _ in range(6)]
        deeds = [SAME, HALF, TWIN, CUT, NAMED["middle"], TWOFOLD] + [whole_deed(rng, 4) for _ in range(6)]
        for deed, net in itertools.product(deeds, nets):
            paper = refusal_to_come(deed, net)
            if paper is None:
                # Where there is a source there is no paper: whatever is told for a flag of cell 0 is not right.
                for walk in ("0", "1", "02", "0101", "1212", ""):
                    self.assertEqual(self.told(BadPaper, "word", need_refusal_to_come, deed, net,
                                               (("moved", walk),) * len(net[0])), "walk")
                continue
            flag = rng.randrange(len(net[0]))
            kind, walk = paper[flag]
            for other_kind in ("away", "moved", "mirror"):
                for other in (walk, walk + walk, walk + "0", "", walk + "11", walk[::-1] + "2", random_word(rng, 8),
                              walk[1:], "02020" + walk, walk + "0220"):
                    cell, gathered = walked_slowly(deed, 0, other)
                    there = led(net, flag, other)
                    right = {"away": there == flag and cell != 0, "moved": there != flag and cell == 0 and gathered == "",
                             "mirror": there == flag and cell == 0 and is_mirror(gathered)}[other_kind]
                    kinds[other_kind, right] = kinds.get((other_kind, right), 0) + 1
                    value = paper[:flag] + ((other_kind, other),) + paper[flag + 1:]
                    if right:
                        self.assertIs(need_refusal_to_come(deed, net, value), value)
                    else:
                        self.assertEqual(self.told(BadPaper, "word", need_refusal_to_come, deed, net, value), "walk")
        self.assertEqual(len(kinds), 6)
        self.assertGreater(min(kinds.values()), 10)

    def test_long_walks_are_taken(self):
        net = ring(3)
        paper = refusal_to_come(HALF, net)
        value = tuple((kind, walk + "00" * 9000) for kind, walk in paper)
        self.assertIs(need_refusal_to_come(HALF, net, value), value)

    def test_wrong_values(self):
        parted = beside(SPHERE, SPHERE)
        calls = [sources, comes_of, refusal_to_come, lambda deed, net: need_refusal_to_come(deed, net, None)]
        for call in calls:
            for value in OTHERS + [HALF[:2], list(HALF)]:
                self.assertEqual(self.told(BadDeed, "word", call, value, None), "form")
            for value in OTHERS + [SPHERE[:2], list(SPHERE)]:
                self.assertEqual(self.told(BadNet, "word", call, APART, value), "form")
            for deed in (APART, HOMELESS):
                with self.assertRaises(NotWhole):
                    call(deed, parted)
            self.assertEqual(self.told(NotJoined, "flag", call, HALF, parted), 4)
        self.assertEqual(self.told(BadPaper, "word", need_refusal_to_come, HALF, SPHERE, None), "form")


def loose_triple(rng, many):
    """Three changes that are their own back ways, 0 then 2 leading where 2 then 0 does; they may leave flags."""
    while True:
        rows = []
        for _ in range(3):
            row = list(range(many))
            rest = rng.sample(range(many), many)
            while len(rest) > 1:
                low, high = rest.pop(), rest.pop()
                if rng.random() < 0.8:
                    row[low], row[high] = high, low
            rows.append(tuple(row))
        if all(rows[2][rows[0][flag]] == rows[0][rows[2][flag]] for flag in range(many)):
            return tuple(rows)


def is_joined_slowly(net):
    met = [0]
    for flag in met:
        met += [row[flag] for row in net if row[flag] not in met]
    return len(set(met)) == len(net[0])


def sources_with(deed, net, flag):
    """Whether the flag stands for cell 0 in some source, looked at by way of the likenesses that are told."""
    for source, images in sources(deed, net):
        made = done_slowly(deed, source)
        for root in range(0, len(made[0]), len(deed[0])):
            if follows(made, root, net, flag):
                return True
    return False


def follows(net, root, other, flag):
    """Whether the one flag can be led to the other one along with all changes."""
    met = {root: flag}
    waiting = [root]
    for here in waiting:
        for row, other_row in zip(net, other):
            there, image = row[here], other_row[met[here]]
            if there not in met:
                met[there] = image
                waiting.append(there)
            elif met[there] != image:
                return False
    return len(set(met.values())) == len(net[0])


def is_right_row(deed, net, flag, row):
    kind, walk = row
    cell, gathered = walked_slowly(deed, 0, walk)
    there = led(net, flag, walk)
    return {"away": there == flag and cell != 0, "moved": there != flag and cell == 0 and gathered == "",
            "mirror": there == flag and cell == 0 and is_mirror(gathered)}[kind]


class DeedSourcesTest(Told):

    def test_behind_two_deeds(self):
        rng = random.Random(11)
        counts = {}
        for _ in range(150):
            first, second = whole_deed(rng, 5), whole_deed(rng, 5)
            both = after_slowly(first, second)
            if len(both[0]) > 48:
                continue
            both = moved_slowly(both, [rewritten(random_word(rng, 3)) for _ in both[0]])
            if fault_slowly(both) is not None:
                continue
            both = renumbered(both, tuple(rng.sample(range(len(both[0])), len(both[0]))))
            told = deed_sources(second, both)
            self.assertIn(least_deed(first), told)
            self.look_at_sources(second, both, told)
            counts[len(told)] = True
            other = whole_deed(rng, 4)
            self.look_at_sources(other, both, deed_sources(other, both))
        self.assertGreater(len(counts), 1)

    def look_at_sources(self, deed, both, told):
        self.assertEqual(list(told), sorted(told))
        self.assertEqual(len(set(told)), len(told))
        self.assertLessEqual(len(told), len(deed[0]))
        for source in told:
            self.assertEqual(least_deed(source), source)
            again = after_slowly(source, deed)
            if fault_slowly(again) is None:
                self.assertTrue(are_alike_deeds(again, both))

    def test_behind_spoilt_deeds(self):
        # One word of a step 1 is another one than what two deeds would make: mostly nothing leads there any more.
        rng = random.Random(13)
        counts = {True: 0, False: 0}
        while min(counts.values()) < 25:
            first, second = whole_deed(rng, 4), whole_deed(rng, 4)
            both = after_slowly(first, second)
            cells = [cell for cell in range(len(both[0])) if both[1][cell][0] != cell]
            if not cells:
                continue
            ones = list(both[1])
            cell = rng.choice(cells)
            there, word = ones[cell]
            word = rewritten(word + random_word(rng, 4))
            ones[cell], ones[there] = (there, word), (cell, rewritten(word[::-1]))
            spoilt = (both[0], tuple(ones), both[2])
            if fault_slowly(spoilt) is not None or not is_whole_deed(spoilt) or len(spoilt[0]) > 16:
                continue
            told = deed_sources(second, spoilt)
            counts[told == ()] += 1
            self.look_at_sources(second, spoilt, told)

    def test_all_sources_of_named_deeds(self):
        deeds = {name: NAMED[name] for name in NAMED}
        least = {name: least_deed(deeds[name]) for name in deeds}
        for first, second, third in itertools.product(deeds, deeds, ("half", "middle", "flip", "cut")):
            both = after(deeds[first], deeds[second])
            told = deed_sources(deeds[third], both)
            want = {least[name] for name in deeds if len(deeds[name][0]) * len(deeds[third][0]) == len(both[0])
                    and are_alike_deeds(after(deeds[name], deeds[third]), both)}
            self.assertLessEqual(want, set(told))
            if len(both[0]) // len(deeds[third][0]) == 1:
                # Up to alike there are no other deeds of one cell.
                self.assertEqual(set(told), want)
            if len(both[0]) % len(deeds[third][0]):
                self.assertEqual(told, ())

    def test_known_ones(self):
        self.assertEqual(deed_sources(SAME, HALF), (least_deed(HALF),))
        self.assertEqual(deed_sources(HALF, HALF), (least_deed(SAME),))
        self.assertEqual(deed_sources(HALF, TWIN), ())
        self.assertEqual(deed_sources(HALF, SAME), ())
        # "middle" makes alike nets of a net and of what "flip" makes of it.
        self.assertEqual(deed_sources(NAMED["middle"], NAMED["middle"]),
                         tuple(sorted((least_deed(SAME), least_deed(NAMED["flip"])))))
        self.assertEqual(deed_sources(NAMED["flip"], SAME), (least_deed(NAMED["flip"]),))

    def test_words_that_are_long(self):
        # The least deed of a deed may have longer words than the deed itself.
        rng = random.Random(6)
        kinds = {True: 0, False: 0}
        while min(kinds.values()) < 2:
            deed = patched_deed(rng, 24, 8)
            if is_whole_deed(deed):
                try:
                    least = least_deed(deed)
                except TooGreat:
                    least = None
                kinds[least is None] += 1
                if least is None:
                    self.assertEqual(self.told(TooGreat, "most", deed_sources, SAME, deed), 60)
                else:
                    self.assertEqual(deed_sources(SAME, deed), (least,))
                self.assertEqual(deed_sources(deed, deed), (SAME,))

    def test_wrong_values(self):
        for value in OTHERS + [HALF[:2], list(HALF)]:
            self.assertEqual(self.told(BadDeed, "word", deed_sources, value, None), "form")
            self.assertEqual(self.told(BadDeed, "word", deed_sources, APART, value), "form")
        for pair in ((APART, HALF), (HALF, APART), (HOMELESS, HOMELESS)):
            with self.assertRaises(NotWhole):
                deed_sources(*pair)


class BooksTest(Told):

    def test_books(self):
        for many in (1, 2, 8):
            book = (HALF, SAME, CUT, TWIN, HALF, SAME, CUT, TWIN)[:many]
            self.assertIs(need_book(book), book)
        for value in OTHERS + [(), (HALF,) * 9, [HALF], HALF[0][0][1], (None,) * 9]:
            if value != ((),):
                self.assertIsNone(self.told(BadScript, "place", need_book, value))
                self.assertIsNone(self.told(BadScript, "place", script_deed, value, None))
        self.assertEqual(self.told(BadScript, "place", need_book, HALF), 0)
        for wrong in (None, APART, HOMELESS, (), list(HALF), (((0, ""),),) * 3, 0, "half", [HALF], (HALF,)):
            self.assertEqual(self.told(BadScript, "place", need_book, (HALF, wrong, None)), 1)
            self.assertEqual(self.told(BadScript, "place", script_deed, (HALF, wrong, None), (9,)), 1)

    def test_courses(self):
        rng = random.Random(21)
        for _ in range(80):
            book = tuple(NAMED[rng.choice(list(NAMED))] for _ in range(rng.randint(1, 8)))
            course = tuple(rng.randrange(len(book)) for _ in range(rng.randint(0, 4)))
            want = SAME
            for number in course:
                want = after_slowly(want, book[number])
            if len(want[0]) <= 48 and fault_slowly(want) is None:
                self.assertEqual(script_deed(book, course), want)
        self.assertEqual(script_deed((HALF,), ()), SAME)
        self.assertEqual(script_deed((HALF,), (0,)), HALF)
        self.assertEqual(len(script_deed((HALF, NAMED["flip"]), (1,) * 35 + (0,) * 5)[0]), 32)

    def test_wrong_courses(self):
        book = (HALF, NAMED["flip"])
        self.assertEqual(script_deed(book, (1,) * 40), SAME)
        for value in OTHERS + [(1,) * 41, [0], "0", 0, (None,) * 41]:
            if value != ((),):
                self.assertIsNone(self.told(BadScript, "place", script_deed, book, value))
        for value in NO_INTEGERS + [2, -1, 10 ** 30]:
            self.assertEqual(self.told(BadScript, "place", script_deed, book, (0, 1, value, None)), 2)
            # A wrong number is told ahead of too many cells.
            self.assertEqual(self.told(BadScript, "place", script_deed, book, (0,) * 10 + (value,)), 10)

    def test_limits(self):
        long = moved_slowly(HALF, ["", "01" * 14])
        self.assertIsNone(fault_slowly(long))
        self.assertTrue(is_whole_deed(long))
        cases = {}
        rng = random.Random(22)
        book = (HALF, CUT, long, NAMED["flip"], TWIN)
        for _ in range(400):
            course = tuple(rng.randrange(5) for _ in range(rng.randint(2, 8)))
            cells, want, deed = 1, None, SAME
            for number in course:
                cells *= len(book[number][0])
                if cells > 48:
                    want = 48
                    break
                deed = after_slowly(deed, book[number])
                if any(len(word) > 60 for row in deed for _, word in row):
                    want = 60
                    break
            cases[want] = cases.get(want, 0) + 1
            if want is None:
                self.assertEqual(script_deed(book, course), deed)
            else:
                self.assertEqual(self.told(TooGreat, "most", script_deed, book, course), want)
        self.assertGreater(min(cases.values()), 10)
        self.assertEqual(len(cases), 3)


if __name__ == "__main__":
    unittest.main()
