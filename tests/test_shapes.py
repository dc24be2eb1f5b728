import itertools
import random
import unittest

from common import NO_INTEGERS, OTHERS, every_net, is_joined_slowly, random_joined_net, random_net
from netsredrawn.errors import BadFlag, BadLikeness, BadNet, NotJoined
from netsredrawn.nets import beside, parts, part_net
from netsredrawn.shapes import (
    are_alike, is_likeness, least_net, likeness, need_likeness, reading_from, symmetries, symmetry_number)

SPHERE = ((1, 0, 3, 2), (2, 3, 0, 1), (2, 3, 0, 1))
OTHER = ((1, 0, 3, 2), (1, 0, 3, 2), (2, 3, 0, 1))
PAIR = beside(SPHERE, OTHER)


def renamed(net, names):
    """The net with the name of each flag put in its place."""
    rows = []
    for row in net:
        new = [0] * len(row)
        for flag, there in enumerate(row):
            new[names[flag]] = names[there]
        rows.append(tuple(new))
    return tuple(rows)


def fits(net, other, images):
    return sorted(images) == list(range(len(net[0]))) and len(net[0]) == len(other[0]) and all(
        images[net[change][flag]] == other[change][images[flag]]
        for change in range(3) for flag in range(len(images)))


def likenesses_slowly(net, other):
    """All likenesses, by trying all maps."""
    return [images for images in itertools.permutations(range(len(net[0]))) if fits(net, other, images)]


def reading_slowly(net, flag):
    order = [flag]
    for place in range(len(net[0])):
        for change in range(3):
            if net[change][order[place]] not in order:
                order.append(net[change][order[place]])
    return renamed(net, {each: place for place, each in enumerate(order)})


class ShapesTest(unittest.TestCase):

    def test_readings(self):
        rng = random.Random(1)
        for _ in range(20):
            net = random_joined_net(rng, 4 * rng.randint(1, 5))
            told = [reading_from(net, flag) for flag in range(len(net[0]))]
            self.assertEqual(told, [reading_slowly(net, flag) for flag in range(len(net[0]))])
            self.assertEqual(least_net(net), min(told))
            self.assertEqual(len(set(told)) * len(symmetries(net)), len(net[0]))

    def test_likenesses_by_trying_all_maps(self):
        rng = random.Random(2)
        nets = list(every_net(4)) + [net for net in every_net(8) if rng.random() < 0.06]
        for net in nets:
            for other in nets:
                if len(net[0]) != len(other[0]):
                    self.assertIsNone(likeness(net, other))
                    continue
                if len(net[0]) == 8 and rng.random() > 0.5:
                    continue
                told = likenesses_slowly(net, other) if len(net[0]) == 4 or rng.random() < 0.15 else None
                if told is None:
                    continue
                self.assertEqual(likeness(net, other), told[0] if told else None)
                self.assertIs(are_alike(net, other), bool(told))
                self.assertIs(least_net(net) == least_net(other), bool(told))
                if net == other:
                    self.assertEqual(symmetry_number(net), len(told))
                    if is_joined_slowly(net):
                        self.assertEqual(symmetries(net), tuple(told))

    def test_nets_of_parts_by_trying(self):
        told = likenesses_slowly(beside(SPHERE, SPHERE), beside(SPHERE, SPHERE))
        self.assertEqual(symmetry_number(beside(SPHERE, SPHERE)), len(told))
        self.assertEqual(len(told), 32)
        self.assertEqual(symmetry_number(PAIR), 16)

    def test_renamed_nets(self):
        rng = random.Random(3)
        for _ in range(40):
            net = random_net(rng, 4 * rng.randint(1, 8))
            names = list(range(len(net[0])))
            rng.shuffle(names)
            other = renamed(net, names)
            self.assertEqual(least_net(net), least_net(other))
            told = likeness(net, other)
            self.assertTrue(fits(net, other, told))
            self.assertLessEqual(told, tuple(names))
            self.assertTrue(is_likeness(net, other, told))
            self.assertIs(need_likeness(net, other, told), told)
            self.assertEqual(symmetry_number(net), symmetry_number(other))

    def test_least_forms_of_parts(self):
        rng = random.Random(4)
        for _ in range(30):
            net = random_net(rng, 4 * rng.randint(2, 6))
            forms = sorted([(len(part), least_net(part_net(net, part[0])[0])) for part in parts(net)])
            whole = forms[0][1]
            for _, form in forms[1:]:
                whole = beside(whole, form)
            self.assertEqual(least_net(net), whole)

    def test_great_nets(self):
        rng = random.Random(5)
        net = random_joined_net(rng, 960)
        names = list(range(960))
        rng.shuffle(names)
        other = renamed(net, names)
        self.assertEqual(least_net(net), least_net(other))
        self.assertTrue(fits(net, other, likeness(net, other)))
        self.assertEqual(symmetry_number(net), len(symmetries(net)))
        many = SPHERE
        for _ in range(6):
            many = beside(many, many)
        number = 4 ** 64
        for factor in range(1, 65):
            number *= factor
        self.assertEqual(symmetry_number(many), number)
        self.assertEqual(likeness(many, many), tuple(range(256)))

    def test_need_likeness(self):
        for value in (None, [0, 1, 2, 3], (0, 1, 2), (0, 1, 2, 3, 4), "0123", (0, 1, 2, True), (0, 1, 2, 4), (0, 1, 2, -1),
                      (0, 1, 2, None), (0, 1, 2, (3,)), {}, 7):
            self.assertIs(is_likeness(SPHERE, SPHERE, value), False)
            with self.assertRaises(BadLikeness) as caught:
                need_likeness(SPHERE, SPHERE, value)
            self.assertIsNone(caught.exception.place)
        for value, place in (((0, 0, 2, 3), 0), ((0, 2, 1, 3), 0), ((0, 1, 3, 2), 0), ((1, 1, 1, 1), 0)):
            with self.assertRaises(BadLikeness) as caught:
                need_likeness(SPHERE, SPHERE, value)
            self.assertEqual(caught.exception.place, place)
            self.assertIs(is_likeness(SPHERE, SPHERE, value), False)
        self.assertIs(is_likeness(SPHERE, SPHERE, (3, 2, 1, 0)), True)
        double = beside(SPHERE, SPHERE)
        with self.assertRaises(BadLikeness) as caught:
            need_likeness(double, double, (0, 1, 2, 3, 0, 1, 2, 3))
        self.assertEqual(caught.exception.place, 4)
        with self.assertRaises(BadLikeness) as caught:
            need_likeness(double, PAIR, (0, 1, 2, 3, 4, 5, 6, 7))
        self.assertEqual(caught.exception.place, 4)
        with self.assertRaises(BadLikeness) as caught:
            need_likeness(SPHERE, double, (0, 1, 2, 3))
        self.assertIsNone(caught.exception.place)

    def test_wrong_values(self):
        for value in OTHERS + [(), 5, "0"]:
            calls = (lambda net: reading_from(net, None), least_net, lambda net: likeness(net, None),
                     lambda net: likeness(SPHERE, net), lambda net: are_alike(net, None),
                     lambda net: are_alike(SPHERE, net), lambda net: is_likeness(net, None, None),
                     lambda net: is_likeness(SPHERE, net, None), lambda net: need_likeness(net, None, None),
                     lambda net: need_likeness(SPHERE, net, None), symmetries, symmetry_number)
            for call in calls:
                with self.assertRaises(BadNet):
                    call(value)
        broken = ((1, 0, 3, 2), (0, 1, 2, 3), (2, 3, 0, 1))
        for call in (likeness, are_alike, lambda net, other: is_likeness(net, other, None),
                     lambda net, other: need_likeness(net, other, None)):
            for nets, word in (((broken, SPHERE), "still"), ((broken, None), "still"), ((None, broken), "form"),
                               ((SPHERE, broken), "still")):
                with self.assertRaises(BadNet) as caught:
                    call(*nets)
                self.assertEqual(caught.exception.word, word)
        for flag in NO_INTEGERS + [-1, 8]:
            with self.assertRaises(BadFlag):
                reading_from(PAIR, flag)
        for call in (symmetries, lambda net: reading_from(net, 5)):
            with self.assertRaises(NotJoined) as caught:
                call(PAIR)
            self.assertEqual(caught.exception.flag, 4)


if __name__ == "__main__":
    unittest.main()
