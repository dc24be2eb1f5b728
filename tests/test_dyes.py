"""Tests of dyes."""

import itertools
import random
import unittest

from common import (
    NO_INTEGERS, NO_WORDS, OTHERS, STRANGE, every_net, led, random_joined_net, random_net, random_word, rewritten)
from netsredrawn.dyes import (
    common_signs, count_of, dyeing, dyeing_paper, is_dyeing_paper, is_sign, need_sign, signs_of, together)
from netsredrawn.errors import BadNet, BadSign, BadWord
from netsredrawn.named import grid, ring, solid, twisted_grid
from netsredrawn.nets import beside, parts

SPHERE = ((1, 0, 3, 2), (2, 3, 0, 1), (2, 3, 0, 1))
NO_SIGNS = NO_INTEGERS + [-1, 8, 10 ** 30, (0,)]


def is_dyeing_slowly(net, sign, colors):
    return all((colors[flag] != colors[row[flag]]) == bool(sign & 2 ** change)
               for change, row in enumerate(net) for flag in range(len(row)))


def count_slowly(word, sign):
    return len([each for each in word if sign & 2 ** int(each)]) % 2


def all_dyeings(net, sign):
    return [colors for colors in itertools.product((0, 1), repeat=len(net[0])) if is_dyeing_slowly(net, sign, colors)]


class DyesTest(unittest.TestCase):

    def told(self, error, attribute, call, *values):
        with self.assertRaises(error) as caught:
            call(*values)
        return getattr(caught.exception, attribute)

    def test_signs(self):
        for sign in range(8):
            self.assertIs(is_sign(sign), True)
            self.assertEqual(need_sign(sign), sign)
            for other in range(8):
                both = together(sign, other)
                for change in range(3):
                    counts = (sign >> change & 1) + (other >> change & 1)
                    self.assertEqual(both >> change & 1, int(counts == 1))
        for value in NO_SIGNS:
            self.assertIs(is_sign(value), False)
            self.assertIs(self.told(BadSign, "value", need_sign, value), value)

    def test_counts(self):
        rng = random.Random(1)
        for _ in range(200):
            word, other, sign = random_word(rng, 12), random_word(rng, 12), rng.randrange(8)
            self.assertEqual(count_of(word, sign), count_slowly(word, sign))
            self.assertEqual(count_of(rewritten(word), sign), count_of(word, sign))
            both = count_of(rewritten(word + other), sign)
            self.assertEqual(both, count_of(word, sign) ^ count_of(other, sign))
        self.assertEqual([count_of("012", sign) for sign in range(8)], [0, 1, 1, 0, 1, 0, 0, 1])
        self.assertEqual(count_of("", 7), 0)
        self.assertEqual(count_of("0" * 19999, 1), 1)

    def test_dyeings_with_all_tuples(self):
        rng = random.Random(2)
        nets = list(every_net(4)) + random.Random(3).sample(list(every_net(8)), 25)
        nets += [random_net(rng, 8) for _ in range(10)]
        kinds = {True: 0, False: 0}
        for net in nets:
            have = []
            for sign in range(8):
                found = all_dyeings(net, sign)
                told = dyeing(net, sign)
                kinds[told is None] += 1
                self.assertIn(len(found), (0, 2 ** len(parts(net))))
                if found:
                    have.append(sign)
                    self.assertIn(told, found)
                    self.assertTrue(all(told[part[0]] == 0 for part in parts(net)))
                else:
                    self.assertIsNone(told)
                for colors in found:
                    self.assertIs(is_dyeing_paper(net, sign, ("dyeing", colors)), True)
            self.assertEqual(signs_of(net), tuple(have))
        self.assertGreater(min(kinds.values()), 50)

    def test_known_nets(self):
        for name in ("tetra", "cube", "octa", "dodeca", "icosa"):
            signs = signs_of(solid(name))
            self.assertIn(7, signs)
            self.assertEqual(1 in signs, name == "cube")
            self.assertEqual(4 in signs, name == "octa")
        self.assertEqual(signs_of(grid(4, 4)), tuple(range(8)))
        self.assertNotIn(1, signs_of(grid(3, 4)))
        self.assertIn(7, signs_of(grid(3, 5)))
        self.assertNotIn(7, signs_of(twisted_grid(3, 4)))
        self.assertEqual(dyeing(SPHERE, 0), (0, 0, 0, 0))

    def test_papers(self):
        rng = random.Random(4)
        nets = [SPHERE, solid("cube"), twisted_grid(3, 4)] + list(every_net(4))
        nets += [random_net(rng, 4 * rng.randint(1, 12)) for _ in range(40)]
        nets += [beside(ring(3), random_joined_net(rng, 8)) for _ in range(10)]
        kinds = {"dyeing": 0, "odd": 0}
        for net in nets:
            for sign in range(8):
                paper = dyeing_paper(net, sign)
                kinds[paper[0]] += 1
                self.assertIs(is_dyeing_paper(net, sign, paper), True)
                if paper[0] == "dyeing":
                    self.assertTrue(is_dyeing_slowly(net, sign, paper[1]))
                    self.assertIn(sign, signs_of(net))
                else:
                    _, flag, word = paper
                    self.assertNotIn(sign, signs_of(net))
                    self.assertEqual(word, rewritten(word))
                    self.assertEqual((led(net, flag, word), count_slowly(word, sign)), (flag, 1))
                    self.assertLessEqual(len(word), 2000)
                    self.assertIs(is_dyeing_paper(net, sign, ("even", flag, word)), False)
                    self.assertIs(is_dyeing_paper(net, sign, ("odd", flag, word, word)), False)
                    self.assertIs(is_dyeing_paper(net, sign, ["odd", flag, word]), False)
                    more = word + "0110"
                    self.assertIs(is_dyeing_paper(net, sign, ("odd", flag, more)), True)
                    for wrong in (word + word, word + "0", "", word[:-1]):
                        right = led(net, flag, wrong) == flag and count_slowly(wrong, sign) == 1
                        self.assertIs(is_dyeing_paper(net, sign, ("odd", flag, wrong)), right)
        self.assertGreater(min(kinds.values()), 50)

    def test_long_words(self):
        # Of a word with the count 1: padded up to 2,000 characters it is right, with more it is not.
        net = next(net for net in every_net(4) if 7 not in signs_of(net))
        _, flag, word = dyeing_paper(net, 7)
        fits = word + "00" * ((2000 - len(word)) // 2)
        self.assertIs(is_dyeing_paper(net, 7, ("odd", flag, fits)), True)
        self.assertGreater(len(fits), 1998)
        self.assertIs(is_dyeing_paper(net, 7, ("odd", flag, fits + "00")), False)
        for many, right in ((998, True), (999, True), (1000, False)):
            self.assertIs(is_dyeing_paper(SPHERE, 2, ("odd", 3, "12" + "00" * many)), right)

    def test_great_nets(self):
        rng = random.Random(5)
        for net in [ring(240), random_joined_net(rng, 960), grid(15, 8), twisted_grid(12, 10)]:
            for sign in range(8):
                paper = dyeing_paper(net, sign)
                self.assertIs(is_dyeing_paper(net, sign, paper), True)
                self.assertEqual(paper[0] == "dyeing", dyeing(net, sign) is not None)
        # A long way until a part that has none is closed: the last one of many parts.
        parts_told = random_net(rng, 4)
        for _ in range(20):
            parts_told = beside(ring(1), parts_told)
        for sign in range(8):
            self.assertIs(is_dyeing_paper(parts_told, sign, dyeing_paper(parts_told, sign)), True)

    def test_wrong_papers(self):
        for net in list(every_net(4)) + [solid("cube")]:
            for sign in range(8):
                colors = dyeing(net, sign)
                for wrong in OTHERS + [(), "dyeing", ("dyeing",), ("odd",), ("dyeing", None), ("dyeing", ()), ("odd", 0), ("odd", 0, None),
                                       ("odd", None, "0"), ("odd", -1, "0"), ("odd", len(net[0]), "0"), ("odd", True, "0"),
                                       ("odd", 0, "3"), ("odd", 0, ("0",)), ("odd", 0, ""), ("odd", 0, "0", "0"), ("even", 0, "0"),
                                       (None, 0, "0"), (["odd"], 0, "0"), ["odd", 0, "0"], (STRANGE,), ("dyeing", "0" * len(net[0])),
                                       ("dyeing", [0] * len(net[0])), ("dyeing", (0,) * (len(net[0]) + 1)),
                                       ("dyeing", (None,) * len(net[0])), ("dyeing", (False,) * len(net[0])),
                                       ("dyeing", ((0,),) * len(net[0])), ("dyeing", (2,) * len(net[0]))]:
                    self.assertIs(is_dyeing_paper(net, sign, wrong), False)
                if colors is not None:
                    for at in range(len(colors)):
                        wrong = colors[:at] + (1 - colors[at],) + colors[at + 1:]
                        self.assertIs(is_dyeing_paper(net, sign, ("dyeing", wrong)), False)
                        wrong = colors[:at] + (bool(colors[at]),) + colors[at + 1:]
                        self.assertIs(is_dyeing_paper(net, sign, ("dyeing", wrong)), False)
                    self.assertIs(is_dyeing_paper(net, sign, ("dyeing", list(colors))), False)
                    self.assertIs(is_dyeing_paper(net, sign, ("dyeing", colors, 0)), False)

    def test_common_signs(self):
        rng = random.Random(6)
        for _ in range(60):
            words = tuple(random_word(rng, 6) for _ in range(rng.randint(0, 4)))
            self.assertEqual(common_signs(words), tuple(
                sign for sign in range(8) if not any(count_slowly(word, sign) for word in words)))
        self.assertEqual(common_signs(()), tuple(range(8)))
        self.assertEqual(common_signs(("01",) * 100), (0, 3, 4, 7))
        for value in OTHERS + ["01", ["01"], ("0",) * 101, (None,) * 101]:
            self.assertIsNone(self.told(BadWord, "place", common_signs, value))
        for value, place in ((("0", None), None), (("01", "0 "), 1), (("3", None), 0), ((None, "3"), None), ((("0",),), None)):
            self.assertEqual(self.told(BadWord, "place", common_signs, value), place)

    def test_wrong_values(self):
        for value in NO_WORDS:
            self.assertIsNone(self.told(BadWord, "place", count_of, value, None))
        self.assertEqual(self.told(BadWord, "place", count_of, "01a", 9), 2)
        for value in NO_SIGNS:
            self.assertIs(self.told(BadSign, "value", count_of, "01", value), value)
            self.assertIs(self.told(BadSign, "value", together, value, STRANGE), value)
            self.assertIs(self.told(BadSign, "value", together, 3, value), value)
            self.assertIs(self.told(BadSign, "value", dyeing, SPHERE, value), value)
            self.assertIs(self.told(BadSign, "value", dyeing_paper, SPHERE, value), value)
            self.assertIs(self.told(BadSign, "value", is_dyeing_paper, SPHERE, value, None), value)
        for value in OTHERS + [SPHERE[:2], list(SPHERE), ((1, 0), (1, 0), (1, 0))]:
            for call in (lambda net: dyeing(net, None), signs_of, lambda net: dyeing_paper(net, None),
                         lambda net: is_dyeing_paper(net, None, None)):
                self.assertEqual(self.told(BadNet, "word", call, value), "form")


if __name__ == "__main__":
    unittest.main()
