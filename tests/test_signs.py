"""Tests of surfaces, signs and covers."""

import itertools
import random
import unittest

from common import NO_INTEGERS, OTHERS, STRANGE, every_net, led, random_joined_net, random_net, rewritten
from deed_common import APART, HOMELESS, NAMED, after_slowly, done_slowly, patched_deed, random_deed, walked_slowly
from netsredrawn.covers import cover, exchange, independent_signs, least_cover
from netsredrawn.dyes import dyeing, signs_of
from netsredrawn.errors import BadDeed, BadNet, BadPair, BadSign, BadTable, NotJoined, NotWhole, TooGreat
from netsredrawn.homes import is_whole_deed
from netsredrawn.listing import all_nets
from netsredrawn.named import bundle, glued, grid, ring, solid, twisted_grid
from netsredrawn.nets import beside, is_joined, is_net
from netsredrawn.quotients import fold_map
from netsredrawn.rounds import euler_number
from netsredrawn.shapes import are_alike, is_likeness
from netsredrawn.signs import (
    is_sign_paper, is_table_of_signs, made_signs, need_table_of_signs, sides_rule, sign_paper, sign_table, signs_after)
from netsredrawn.surfaces import is_two_sided, surface, surface_word, surfaces

SPHERE = ((1, 0, 3, 2), (2, 3, 0, 1), (2, 3, 0, 1))
NO_SIGNS = NO_INTEGERS + [-1, 8, 10 ** 30, (0,)]
NO_NETS = OTHERS + [SPHERE[:2], list(SPHERE), ((1, 0), (1, 0), (1, 0))]
SAME_TABLE = tuple(range(8))
# The projective plane: a face around one edge twice.
CAP = glued(((1, 1),))


class Told(unittest.TestCase):

    def told(self, error, attribute, call, *values):
        with self.assertRaises(error) as caught:
            call(*values)
        return getattr(caught.exception, attribute)


def whole_deeds(seed, many, most=6):
    """The named deeds and some others that are whole."""
    rng = random.Random(seed)
    deeds = list(NAMED.values())
    while len(deeds) < many + len(NAMED):
        deed = rng.choice((random_deed(rng), patched_deed(rng, rng.randint(1, most), rng.randint(0, 4))))
        if is_whole_deed(deed):
            deeds.append(deed)
    return deeds


def count_slowly(word, sign):
    return len([each for each in word if sign & 2 ** int(each)]) % 2


class SurfacesTest(Told):

    def test_known_surfaces(self):
        for number in (1, 2, 5, 240):
            self.assertEqual(surface(ring(number)), (2, 0))
            self.assertEqual(surface(bundle(number)), (2, 0))
        for wide, high in ((1, 1), (3, 4), (2, 5)):
            self.assertEqual(surface(grid(wide, high)), (2, 1))
            self.assertEqual(surface(twisted_grid(wide, high)), (1, 2))
        for name in ("tetra", "cube", "octa", "dodeca", "icosa"):
            self.assertEqual(surface(solid(name)), (2, 0))
        self.assertEqual(surface(CAP), (1, 1))
        for caps in range(1, 8):
            face = tuple(side for number in range(1, caps + 1) for side in (number, number))
            self.assertEqual(surface(glued((face,))), (1, caps))
            around = tuple(side for number in range(1, 2 * caps, 2)
                           for side in (number, number + 1, -number, -number - 1))
            self.assertEqual(surface(glued((around,))), (2, caps))

    def test_sides_and_covers(self):
        rng = random.Random(1)
        kinds = {1: 0, 2: 0}
        for net in list(every_net(4)) + [random_joined_net(rng, 4 * rng.randint(1, 12)) for _ in range(60)]:
            if not is_joined(net):
                continue
            sides, number = surface(net)
            kinds[sides] += 1
            self.assertIs(is_two_sided(net), sides == 2)
            self.assertEqual(euler_number(net), 2 - sides * number)
            self.assertGreaterEqual(number, 2 - sides)
            twice = cover(net, (7,))
            if sides == 1:
                self.assertEqual(surface(twice), (2, number - 1))
            else:
                self.assertEqual(surfaces(twice), ((2, number), (2, number)))
        self.assertGreater(min(kinds.values()), 3)

    def test_parts(self):
        both = beside(beside(ring(2), twisted_grid(2, 2)), CAP)
        self.assertEqual(surfaces(both), ((2, 0), (1, 2), (1, 1)))
        self.assertIs(is_two_sided(both), False)
        self.assertIs(is_two_sided(beside(ring(2), grid(2, 2))), True)
        self.assertEqual(surfaces(beside(ring(2), grid(2, 2))), ((2, 0), (2, 1)))
        self.assertEqual(self.told(NotJoined, "flag", surface, both), 8)
        self.assertEqual(surfaces(CAP), ((1, 1),))

    def test_words(self):
        self.assertEqual([surface_word((2, many)) for many in (0, 1, 2, 10 ** 30)],
                         ["sphere", "1 handles", "2 handles", "1" + "0" * 30 + " handles"])
        self.assertEqual([surface_word((1, many)) for many in (1, 7, 10 ** 30)],
                         ["1 caps", "7 caps", "1" + "0" * 30 + " caps"])
        for value in OTHERS + [(1, 0), (2, -1), (2, 10 ** 30 + 1), (1, 10 ** 30 + 1), (0, 1), (0, 5), (-1, 5), (3, 1), (3, 5), (2,), (2, 0, 0),
                               [2, 0], "20", (2, None), (2, "0"), (2, True), (True, 1), ("2", 0), (None, 0), 2, ((2, 0),)]:
            self.assertIs(self.told(BadPair, "value", surface_word, value), value)

    def test_wrong_nets(self):
        for value in NO_NETS:
            for call in (is_two_sided, surface, surfaces):
                self.assertEqual(self.told(BadNet, "word", call, value), "form")


class SignsTest(Told):

    def test_tables_with_made_nets(self):
        nets = [net for many in (4, 8) for net in all_nets(many)]
        unlike = {True: 0, False: 0}
        for deed in whole_deeds(1, 40):
            table = sign_table(deed)
            self.assertEqual(sides_rule(deed), table[7])
            self.assertIs(is_table_of_signs(table), True)
            self.assertEqual(need_table_of_signs(table), table)
            for net in nets:
                old, new = signs_of(net), signs_of_slowly(done_slowly(deed, net))
                self.assertEqual(new, tuple(sign for sign in range(8) if table[sign] is not None and table[sign] in old))
                self.assertEqual(made_signs(table, old), new)
            for told in table:
                unlike[told is None] += 1
        self.assertGreater(min(unlike.values()), 30)

    def test_known_tables(self):
        self.assertEqual(sign_table(NAMED["same"]), SAME_TABLE)
        self.assertEqual(sign_table(NAMED["flip"]), (0, 4, 2, 6, 1, 5, 3, 7))
        # Corners and middles of edges can always be dyed with unlike ends; faces as the old ones.
        half = sign_table(NAMED["half"])
        self.assertEqual((half[0], half[1], half[4], half[7]), (0, 0, 4, 7))
        for name in NAMED:
            self.assertEqual(sides_rule(NAMED[name]), {"twist": 6, "unwheel": 3, "spin": 3, "wheel": 6}.get(name, 7), name)

    def test_two_after_one_another(self):
        deeds = whole_deeds(2, 12)
        for first, second in itertools.product(deeds[::2], deeds[::3]):
            table = signs_after(sign_table(first), sign_table(second))
            if len(first[0]) * len(second[0]) <= 24:
                both = after_slowly(first, second)
                if all(len(word) <= 60 for row in both for _, word in row):
                    self.assertEqual(table, sign_table(both))
        none = (0,) + (None,) * 7
        self.assertEqual(signs_after(none, SAME_TABLE), none)
        self.assertEqual(signs_after(SAME_TABLE, none), none)

    def test_papers(self):
        kinds = {"sign": 0, "never": 0}
        for deed in whole_deeds(3, 30):
            for sign in range(8):
                paper = sign_paper(deed, sign)
                kinds[paper[0]] += 1
                self.assertIs(is_sign_paper(deed, sign, paper), True)
                self.assertEqual(sign_table(deed)[sign], paper[1] if paper[0] == "sign" else None)
                if paper[0] == "sign":
                    self.look_at_bits(deed, sign, paper)
                else:
                    self.look_at_walks(deed, sign, paper)
        self.assertGreater(min(kinds.values()), 20)

    def look_at_bits(self, deed, sign, paper):
        _, old, bits = paper
        self.assertEqual((len(bits), bits[0]), (len(deed[0]), 0))
        rng = random.Random(4)
        for net in (SPHERE, ring(2), random_net(rng, 12), grid(2, 2)):
            colors = dyeing(net, old)
            if colors is not None:
                made = tuple(color ^ bit for color in colors for bit in bits)
                self.assertTrue(is_dyeing_slowly(done_slowly(deed, net), sign, made))
        for cell, bit in enumerate(bits):
            self.assertIs(is_sign_paper(deed, sign, ("sign", old, bits[:cell] + (1 - bit,) + bits[cell + 1:])), False)
            self.assertIs(is_sign_paper(deed, sign, ("sign", old, bits[:cell] + (bool(bit),) + bits[cell + 1:])), False)
            self.assertIs(is_sign_paper(deed, sign, ("sign", old, bits[:cell] + (bit + 2,) + bits[cell + 1:])), False)
        for other in list(range(old)) + list(range(old + 1, 8)) + [None, 8, -1, "0", True]:
            self.assertIs(is_sign_paper(deed, sign, ("sign", other, bits)), False)
        self.assertIs(is_sign_paper(deed, sign, ("sign", old, tuple(1 - bit for bit in bits))), False)
        for wrong in (("sign", old, list(bits)), ("sign", old, bits + (0,)), ("sign", old, bits[:-1]), ("sign", old),
                      ("sign", old, bits, 0), ["sign", old, bits], ("never", old, bits), ("sign", bits, old),
                      ("never", ("0",) * 8), ("never", ("",) * 8), ("sign", old, None), ("sign", old, "0" * len(bits))):
            self.assertIs(is_sign_paper(deed, sign, wrong), False)

    def look_at_walks(self, deed, sign, paper):
        walks = paper[1]
        self.assertEqual(len(walks), 8)
        for old, walk in enumerate(walks):
            self.assertEqual(walk, rewritten(walk))
            self.assertLessEqual(len(walk), 400)
            there, gathered = walked_slowly(deed, 0, walk)
            self.assertEqual(there, 0)
            self.assertNotEqual(count_slowly(walk, sign), count_slowly(gathered, old))
        for old, walk in enumerate(walks):
            before, behind = walks[:old], walks[old + 1:]
            for other in (walk + walk, "", walk + "0", walk[:-1], "02" * 3):
                there, gathered = walked_slowly(deed, 0, other)
                right = there == 0 and count_slowly(other, sign) != count_slowly(gathered, old)
                self.assertIs(is_sign_paper(deed, sign, ("never", before + (other,) + behind)), right)
            fits = walk + "11" * ((400 - len(walk)) // 2)
            self.assertIs(is_sign_paper(deed, sign, ("never", before + (fits,) + behind)), True)
            self.assertIs(is_sign_paper(deed, sign, ("never", before + (fits + "11",) + behind)), False)
            for other in (None, 0, ("0",), walk + "3", [walk], b"0"):
                self.assertIs(is_sign_paper(deed, sign, ("never", before + (other,) + behind)), False)
        for wrong in (("never", list(walks)), ("never", walks[:7]), ("never", walks + ("",)), ("never",), ["never", walks],
                      ("never", walks, 0), ("sign", walks), ("nevers", walks), (0, walks), ("sign", 0, walks), ("sign", 0, (0,) * len(deed[0]))):
            self.assertIs(is_sign_paper(deed, sign, wrong), False)

    def test_a_walk_of_many_characters(self):
        # Of "same" and itself the paper ("sign", 7, (0,)) is right, and no walk speaks against it.
        self.assertIs(is_sign_paper(NAMED["same"], 7, ("sign", 7, (0,))), True)
        deed = next(deed for deed in whole_deeds(5, 30) if None in sign_table(deed))
        sign = sign_table(deed).index(None)
        walks = sign_paper(deed, sign)[1]
        odd = next(at for at, walk in enumerate(walks) if len(walk) % 2 == 1)
        fits = walks[odd] + "00" * ((399 - len(walks[odd])) // 2)
        self.assertEqual(len(fits), 399)
        self.assertIs(is_sign_paper(deed, sign, ("never", walks[:odd] + (fits,) + walks[odd + 1:])), True)
        self.assertIs(is_sign_paper(deed, sign, ("never", walks[:odd] + (fits + "22",) + walks[odd + 1:])), False)

    def test_values_of_any_kind(self):
        for deed in (NAMED["same"], NAMED["cut"]):
            for sign in range(8):
                for value in OTHERS + ["sign", "never", ("sign",), ("never",), (None, 0, (0,)), (STRANGE,), ("other", 0, (0,))]:
                    self.assertIs(is_sign_paper(deed, sign, value), False)

    def test_tables_of_signs(self):
        for value in OTHERS + [SAME_TABLE[:7], SAME_TABLE + (0,), list(SAME_TABLE), (0,) * 7 + (8,), (0,) * 7 + (-1,),
                               (0,) * 7 + ("0",), (False,) + SAME_TABLE[1:], (0, True) + SAME_TABLE[2:], ((),) * 8]:
            self.assertIs(is_table_of_signs(value), False)
            with self.assertRaises(BadTable) as caught:
                need_table_of_signs(value)
            self.assertEqual((caught.exception.word, caught.exception.place), ("form", None))
        for first in (1, 7, None):
            with self.assertRaises(BadTable) as caught:
                need_table_of_signs((first,) + SAME_TABLE[1:])
            self.assertEqual((caught.exception.word, caught.exception.place), ("zero", 0))
        rng = random.Random(6)
        places = {}
        for _ in range(3000):
            table = [0] + [rng.choice((None, None, 0, 1, 2, 3, 4, 5, 6, 7)) for _ in range(7)]
            if rng.random() < 0.5:
                one, two, four = (rng.randrange(8) for _ in range(3))
                table = [(sign & 1) * one ^ (sign >> 1 & 1) * two ^ (sign >> 2) * four for sign in range(8)]
                if rng.random() < 0.7:
                    table[rng.randrange(1, 8)] = rng.choice((None, 0, 5))
            wrong = [sign for sign in range(8) if table[sign] is not None and any(
                table[less] is not None and table[less ^ sign] != table[less] ^ table[sign] for less in range(sign))]
            table = tuple(table)
            self.assertIs(is_table_of_signs(table), not wrong)
            if wrong:
                with self.assertRaises(BadTable) as caught:
                    need_table_of_signs(table)
                self.assertEqual((caught.exception.word, caught.exception.place), ("together", wrong[0]))
                places[wrong[0]] = True
            else:
                self.assertIs(need_table_of_signs(table), table)
        self.assertGreater(len(places), 4)

    def test_made_signs(self):
        groups = [rows for many in (1, 2, 4, 8) for rows in itertools.combinations(range(8), many)
                  if 0 in rows and all(one ^ other in rows for one in rows for other in rows)]
        self.assertEqual(len(groups), 16)
        for group in groups:
            self.assertEqual(made_signs(SAME_TABLE, group), group)
            self.assertEqual(made_signs((0, 4, 2, 6, 1, 5, 3, 7), group),
                             tuple(sorted((0, 4, 2, 6, 1, 5, 3, 7).index(sign) for sign in group)))
            self.assertEqual(made_signs((0,) + (None,) * 7, group), (0,))
        for many in range(9):
            for rows in itertools.combinations(range(8), many):
                if rows not in groups:
                    self.assertIs(self.told(BadSign, "value", made_signs, SAME_TABLE, rows), rows)
        for value in OTHERS + [[0, 1], (1, 0), (0, 0), (0, True), (0, 8), (0, None), (0, "1"), tuple(range(9)), 0, "01"]:
            self.assertIs(self.told(BadSign, "value", made_signs, SAME_TABLE, value), value)

    def test_wrong_values(self):
        for value in OTHERS + [NAMED["half"][:2], list(NAMED["half"])]:
            for call in (sign_table, sides_rule, lambda deed: sign_paper(deed, 8), lambda deed: is_sign_paper(deed, 8, None)):
                self.assertEqual(self.told(BadDeed, "word", call, value), "form")
        for value in NO_SIGNS:
            for deed in (NAMED["half"], APART):
                self.assertIs(self.told(BadSign, "value", sign_paper, deed, value), value)
                self.assertIs(self.told(BadSign, "value", is_sign_paper, deed, value, None), value)
        for deed in (APART, HOMELESS):
            for call in (sign_table, sides_rule, lambda each: sign_paper(each, 0), lambda each: is_sign_paper(each, 0, None)):
                with self.assertRaises(NotWhole):
                    call(deed)
        bad = (1,) + SAME_TABLE[1:]
        self.assertEqual(self.told(BadTable, "word", signs_after, bad, None), "zero")
        self.assertEqual(self.told(BadTable, "word", signs_after, None, bad), "form")
        self.assertEqual(self.told(BadTable, "word", signs_after, SAME_TABLE, bad), "zero")
        self.assertEqual(self.told(BadTable, "word", made_signs, bad, None), "zero")


def is_dyeing_slowly(net, sign, colors):
    return all((colors[flag] != colors[row[flag]]) == bool(sign & 2 ** change)
               for change, row in enumerate(net) for flag in range(len(row)))


def signs_of_slowly(net):
    """The signs for which no walk around leads a flag to itself with the other number."""
    told = []
    for sign in range(8):
        colors = {}
        right = True
        for root in range(len(net[0])):
            waiting = [] if root in colors else [root]
            colors.setdefault(root, 0)
            for here in waiting:
                for change, row in enumerate(net):
                    color = colors[here] ^ (sign >> change & 1)
                    if row[here] not in colors:
                        colors[row[here]] = color
                        waiting.append(row[here])
                    right = right and colors[row[here]] == color
        if right:
            told.append(sign)
    return tuple(told)


class CoversTest(Told):

    def test_flag_by_flag(self):
        rng = random.Random(11)
        for _ in range(60):
            net = random_net(rng, 4 * rng.randint(1, 8))
            wished = tuple(rng.randrange(8) for _ in range(rng.randint(0, 3)))
            told = cover(net, wished)
            copies = 2 ** len(wished)
            self.assertEqual(len(told[0]), len(net[0]) * copies)
            self.assertTrue(is_net(told))
            for change in range(3):
                for flag in range(len(net[0])):
                    for bits in range(copies):
                        there, image = divmod(told[change][flag * copies + bits], copies)
                        self.assertEqual(there, net[change][flag])
                        for place, sign in enumerate(wished):
                            turned = (bits >> place & 1) != (image >> place & 1)
                            self.assertEqual(turned, bool(sign >> change & 1))
            for sign in wished:
                self.assertIsNotNone(dyeing(told, sign))
        self.assertEqual(cover(SPHERE, ()), SPHERE)
        self.assertEqual(cover(SPHERE, (0,)), tuple(tuple(2 * there + bit for there in row for bit in (0, 1)) for row in SPHERE))

    def test_independent_ones(self):
        rng = random.Random(12)
        lengths = set()
        for _ in range(150):
            net = random_joined_net(rng, 4 * rng.randint(1, 5))
            wished = tuple(rng.randrange(8) for _ in range(rng.randint(0, 8)))
            told = independent_signs(net, wished)
            have = set(signs_of(net))
            want = []
            for sign in wished:
                group = {0}
                for each in list(have) + want:
                    group |= {each ^ other for other in group}
                if sign not in group:
                    want.append(sign)
            self.assertEqual(told, tuple(want))
            lengths.add(len(told))
            least = least_cover(net, wished)
            self.assertEqual(least, cover(net, told))
            self.assertTrue(is_joined(least))
            self.assertTrue(set(wished) <= set(signs_of(least)))
            self.assertIsNotNone(fold_map(least, net))
            if wished:
                parted = cover(net, wished[:3])
                self.assertEqual(is_joined(parted), len(wished[:3]) == len(independent_signs(net, wished[:3])))
        self.assertEqual(lengths, {0, 1, 2, 3})

    def test_least_covers_are_least(self):
        nets = [net for many in (4, 8, 12) for net in all_nets(many)]
        folds = 0
        for net in all_nets(4) + all_nets(8)[:4]:
            for wished in ((7,), (1, 4), (3, 5, 6), (1, 1), (0,), (2,)):
                least = least_cover(net, wished)
                for other in nets:
                    if len(other[0]) % len(net[0]) == 0 and fold_map(other, net) is not None:
                        if set(wished) <= set(signs_of(other)):
                            folds += 1
                            self.assertIsNotNone(fold_map(other, least))
        self.assertGreater(folds, 10)

    def test_exchanges(self):
        rng = random.Random(13)
        kinds = {True: 0, False: 0}
        for deed in whole_deeds(14, 16):
            table = sign_table(deed)
            for sign in range(8):
                net = random_net(rng, 4 * rng.randint(1, 3))
                told = exchange(deed, net, sign)
                kinds[told is None] += 1
                self.assertEqual(told is None, table[sign] is None)
                if told is not None:
                    first = done_slowly(deed, cover(net, (table[sign],)))
                    second = cover(done_slowly(deed, net), (sign,))
                    self.assertTrue(is_likeness(first, second, told))
                    many, bits = len(deed[0]), sign_paper(deed, sign)[2]
                    self.assertEqual(told, tuple(((at // many // 2) * many + at % many) * 2 + (at // many % 2 ^ bits[at % many])
                                                 for at in range(len(first[0]))))
        self.assertGreater(min(kinds.values()), 10)

    def test_limits(self):
        great = random_joined_net(random.Random(15), 480)
        self.assertEqual(len(cover(great, (7,))[0]), 960)
        self.assertEqual(len(cover(random_net(random.Random(16), 120), (1, 2, 4))[0]), 960)
        self.assertEqual(self.told(TooGreat, "most", cover, great, (7, 7)), 960)
        self.assertEqual(self.told(TooGreat, "most", cover, random_net(random.Random(16), 124), (1, 2, 4)), 960)
        self.assertEqual(self.told(TooGreat, "most", cover, random_net(random.Random(16), 484), (0,)), 960)
        self.assertEqual(len(independent_signs(great, (1, 2, 4))), 3)
        self.assertEqual(self.told(TooGreat, "most", least_cover, great, (1, 2, 4)), 960)
        self.assertEqual(len(least_cover(great, (1, 1, 0))[0]), 960)
        # Signs for which there is a dyeing already make the least cover no greater.
        self.assertEqual(least_cover(ring(240), (7, 0, 7)), ring(240))
        self.assertEqual(len(exchange(NAMED["same"], great, 7)), 960)
        self.assertEqual(self.told(TooGreat, "most", exchange, NAMED["same"], random_net(random.Random(17), 484), 7), 960)
        self.assertEqual(len(exchange(NAMED["cut"], ring(40), 0)), 960)
        self.assertEqual(self.told(TooGreat, "most", exchange, NAMED["cut"], ring(41), 0), 960)
        deed = next(deed for deed in whole_deeds(5, 30) if None in sign_table(deed) and len(deed[0]) > 1)
        self.assertIsNone(exchange(deed, random_net(random.Random(17), 960), sign_table(deed).index(None)))

    def test_wrong_values(self):
        parted = beside(SPHERE, SPHERE)
        calls = [(cover, 3), (independent_signs, 8), (least_cover, 8)]
        for call, most in calls:
            for value in NO_NETS:
                self.assertEqual(self.told(BadNet, "word", call, value, None), "form")
            for value in OTHERS + ["01", 0, [0]]:
                if value != ((),):
                    self.assertIs(self.told(BadSign, "value", call, parted, value), value)
            call(SPHERE, (7,) * most)
            wrong = (9,) * (most + 1)
            self.assertIs(self.told(BadSign, "value", call, SPHERE, wrong), wrong)
            for value in NO_SIGNS:
                self.assertIs(self.told(BadSign, "value", call, parted, (1, value, 9)), value)
        self.assertEqual(len(cover(parted, (1,))[0]), 16)
        for call in (independent_signs, least_cover):
            self.assertEqual(self.told(NotJoined, "flag", call, parted, (1,)), 4)
        for value in OTHERS:
            self.assertEqual(self.told(BadDeed, "word", exchange, value, None, None), "form")
        for value in NO_NETS:
            self.assertEqual(self.told(BadNet, "word", exchange, APART, value, None), "form")
        for value in NO_SIGNS:
            self.assertIs(self.told(BadSign, "value", exchange, APART, SPHERE, value), value)
        with self.assertRaises(NotWhole):
            exchange(APART, random_net(random.Random(18), 960), 0)
        self.assertTrue(are_alike(cover(parted, ()), parted))
        self.assertEqual(led(cover(SPHERE, (7,)), 0, "0"), 3)


if __name__ == "__main__":
    unittest.main()
