import itertools
import random
import unittest

from common import NO_INTEGERS, OTHERS, every_net, is_joined_slowly, led, random_joined_net, random_word
from netsredrawn.congruences import folding_classes
from netsredrawn.errors import BadFlag, BadLikeness, BadNet, BadTable, NotJoined, TooGreat
from netsredrawn.named import bundle, grid, ring, solid
from netsredrawn.nets import beside, net_fault
from netsredrawn.quotients import (
    fold_classes, fold_map, folded_by, image_net, images_of, is_fold_map, over_both)
from netsredrawn.shapes import are_alike, least_net, symmetries

SPHERE = ((1, 0, 3, 2), (2, 3, 0, 1), (2, 3, 0, 1))
OTHER = ((1, 0, 3, 2), (1, 0, 3, 2), (2, 3, 0, 1))
PAIR = beside(SPHERE, OTHER)


def is_folding(net, other, value):
    return all(value[net[c][f]] == other[c][value[f]] for c in range(3) for f in range(len(value)))


def classes_of_rows(many):
    """All classes of so many flags."""
    rows = [(0,)]
    for _ in range(many - 1):
        rows = [row + (mark,) for row in rows for mark in range(max(row) + 2)]
    return rows


def image_slowly(net, marks):
    """The image, or None where the classes are not kept or there is none."""
    steps = [{} for _ in range(3)]
    for change in range(3):
        for flag, mark in enumerate(marks):
            if steps[change].setdefault(mark, marks[net[change][flag]]) != marks[net[change][flag]]:
                return None
    image = tuple(tuple(step[mark] for mark in sorted(step)) for step in steps)
    return None if net_fault(image) else image


class QuotientsTest(unittest.TestCase):

    def test_fold_classes_by_trying_all(self):
        rng = random.Random(1)
        every = {4: classes_of_rows(4), 8: classes_of_rows(8)}
        nets = [net for net in every_net(4)] + rng.sample([net for net in every_net(8) if is_joined_slowly(net)], 14)
        for net in nets:
            told = [marks for marks in every[len(net[0])] if image_slowly(net, marks) is not None]
            self.assertEqual(fold_classes(net), tuple(sorted(told)))
            images = {least_net(image_slowly(net, marks)) for marks in told}
            self.assertEqual(images_of(net), tuple(sorted(images, key=lambda form: (len(form[0]), form))))

    def test_fold_classes_of_greater_nets(self):
        for net in (ring(6), bundle(6), grid(2, 2), grid(1, 3), solid("tetra"), solid("cube"), ring(24), grid(3, 4)):
            told = fold_classes(net)
            self.assertEqual(list(told), sorted(set(told)))
            self.assertIn(tuple(range(len(net[0]))), told)
            for marks in told:
                image = image_slowly(net, marks)
                self.assertEqual(image_net(net, marks), image)
            # Each image is one exactly if there is a folding onto it; and foldings of small nets onto all small nets.
            for other in list(every_net(4)) + [net for net in every_net(8) if is_joined_slowly(net)][:20]:
                found = fold_map(net, other) is not None
                self.assertIs(least_net(other) in images_of(net), found)

    def test_fold_classes_of_rotations(self):
        # The ring of K edges: all maps of its images lead to rings or to what they fold to.
        told = {len(image[0]) for image in images_of(ring(12))}
        self.assertTrue({4 * edges for edges in (1, 2, 3, 4, 6, 12)} <= told)

    def test_limits(self):
        self.assertEqual(len(ring(24)[0]), 96)
        for call in (fold_classes, images_of):
            with self.assertRaises(TooGreat) as caught:
                call(ring(25))
            self.assertEqual(caught.exception.most, 96)
            with self.assertRaises(NotJoined):
                call(beside(ring(24), ring(24)))
        every = len(fold_classes(ring(12)))
        self.assertEqual(len(folding_classes(ring(12), every)), every)
        self.assertGreater(len(folding_classes(ring(12), every - 1)), every - 1)

    def test_fold_maps_by_trying(self):
        rng = random.Random(2)
        nets = [net for net in every_net(8) if is_joined_slowly(net)]
        for _ in range(25):
            net = rng.choice(nets)
            for other in every_net(4):
                told = [value for value in itertools.product(range(4), repeat=8) if value[0] < 4
                        and is_folding(net, other, value)] if rng.random() < 0.1 else None
                found = fold_map(net, other)
                if told is not None:
                    self.assertEqual(found, told[0] if told else None)
                if found is not None:
                    self.assertTrue(is_folding(net, other, found))
                    self.assertIs(is_fold_map(net, other, found), True)
        self.assertEqual(fold_map(SPHERE, SPHERE), (0, 1, 2, 3))
        self.assertIsNone(fold_map(SPHERE, OTHER))

    def test_is_fold_map(self):
        for value in OTHERS + [(), (0, 1, 2), (0, 1, 2, 4), (0, 1, 2, True), [0, 1, 2, 3], (0, 1, 2, "3"), (0, 0, 0, 0),
                               (0, 1, 3, 2), "0123", (0, 1, 2, -1), (0, 1, 2, None)]:
            self.assertIs(is_fold_map(SPHERE, SPHERE, value), False)
        for value in ((0, 1, 2, 3), (3, 2, 1, 0)):
            self.assertIs(is_fold_map(SPHERE, SPHERE, value), True)

    def test_image_faults(self):
        form = [None, [0, 1, 2, 3], (0, 1, 2), (0, 2, 1, 3), (1, 0, 2, 3), (0, 1, 2, True), (0, 1, 3, 2), (0, 1, 1, 3),
                (0, 1, 2, None), "0123", (0, 1, 2, -1), {}, (0, 1, 2, 3, 4), ((0,), 1, 2, 3), 7]
        for marks in form:
            with self.assertRaises(BadTable) as caught:
                image_net(SPHERE, marks)
            self.assertEqual((caught.exception.word, caught.exception.place), ("form", None))
        rng = random.Random(3)
        kinds = set()
        for _ in range(800):
            net = random_joined_net(rng, rng.choice((8, 12)))
            marks = [0]
            while len(marks) < len(net[0]):
                marks.append(rng.randint(0, max(marks) + 1) if rng.random() < 0.4 else max(marks) + 1)
            fault = None
            for flag, mark in enumerate(marks):
                first = marks.index(mark)
                if any(marks[row[flag]] != marks[row[first]] for row in net):
                    fault = ("changes", flag)
                    break
            if fault is None:
                for flag, mark in enumerate(marks):
                    if mark in [marks[led(net, flag, word)] for word in ("0", "1", "2", "02")]:
                        fault = ("net", flag)
                        break
            kinds.add(fault and fault[0])
            if fault is None:
                self.assertEqual(image_net(net, tuple(marks)), image_slowly(net, marks))
                continue
            with self.assertRaises(BadTable) as caught:
                image_net(net, tuple(marks))
            self.assertEqual((caught.exception.word, caught.exception.place), fault)
        self.assertIn("changes", kinds)
        with self.assertRaises(BadTable) as caught:
            image_net(SPHERE, (0, 0, 0, 0))
        self.assertEqual((caught.exception.word, caught.exception.place), ("net", 0))
        with self.assertRaises(BadTable) as caught:
            image_net(SPHERE, (0, 1, 1, 0))
        self.assertEqual((caught.exception.word, caught.exception.place), ("net", 0))

    def test_images_of_several_parts(self):
        both = beside(SPHERE, SPHERE)
        self.assertEqual(image_net(both, (0, 1, 2, 3, 0, 1, 2, 3)), SPHERE)
        self.assertEqual(image_net(both, tuple(range(8))), both)

    def test_folded_by(self):
        net = ring(6)
        own = symmetries(net)
        rng = random.Random(4)
        some = 0
        for _ in range(60):
            chosen = tuple(rng.choice(own) for _ in range(rng.randint(0, 2)))
            names = list(range(len(net[0])))
            for _ in range(len(names)):
                for each in chosen:
                    for flag in range(len(names)):
                        low = min(names[flag], names[each[flag]])
                        names[flag] = names[each[flag]] = low
            marks = tuple(sorted(set(names)).index(name) for name in names)
            image = image_slowly(net, marks)
            self.assertEqual(folded_by(net, chosen), None if image is None else (image, marks))
            some += image is not None
        self.assertGreater(some, 10)
        self.assertEqual(folded_by(net, ()), (net, tuple(range(24))))
        self.assertEqual(folded_by(net, (own[0],) * 50), (net, tuple(range(24))))

    def test_wrong_likenesses(self):
        own = symmetries(SPHERE)
        for value, place in ((None, None), ([], None), (own[:1] * 51, None), ({}, None), ("", None), ((None,) * 51, None),
                             ((own[0], None), 1), ((own[0], list(own[1])), 1), (((0, 0, 0, 0), None), 0), ((own[1], (0, 1)), 1)):
            with self.assertRaises(BadLikeness) as caught:
                folded_by(SPHERE, value)
            self.assertEqual(caught.exception.place, place)
        with self.assertRaises(NotJoined):
            folded_by(PAIR, None)

    def test_over_both(self):
        rng = random.Random(5)
        for _ in range(40):
            one, two = random_joined_net(rng, rng.choice((4, 8, 12))), random_joined_net(rng, rng.choice((4, 8)))
            flag, other = rng.randrange(len(one[0])), rng.randrange(len(two[0]))
            net, pairs = over_both(one, flag, two, other)
            self.assertIsNone(net_fault(net))
            self.assertEqual(pairs[0], (flag, other))
            self.assertEqual(len(set(pairs)), len(pairs))
            for change in range(3):
                for at, (first, second) in enumerate(pairs):
                    self.assertEqual(pairs[net[change][at]], (one[change][first], two[change][second]))
            met = [0]
            for at in met:
                met += [there for there in dict.fromkeys(net[change][at] for change in range(3)) if there not in met]
            self.assertEqual(met, list(range(len(pairs))))
            self.assertTrue(is_fold_map(net, one, tuple(pair[0] for pair in pairs)))
            self.assertTrue(is_fold_map(net, two, tuple(pair[1] for pair in pairs)))
            word = random_word(rng, 12)
            home = led(one, flag, word) == flag and led(two, other, word) == other
            self.assertIs(led(net, 0, word) == 0, home)
        self.assertTrue(are_alike(over_both(ring(4), 0, ring(6), 0)[0], ring(12)))
        self.assertEqual(len(over_both(ring(15), 0, ring(16), 0)[0][0]), 960)
        with self.assertRaises(TooGreat) as caught:
            over_both(ring(16), 0, ring(17), 0)
        self.assertEqual(caught.exception.most, 960)

    def test_wrong_values(self):
        for value in OTHERS + [(), 5]:
            for call in (lambda n: fold_map(n, None), lambda n: fold_map(PAIR, n), lambda n: is_fold_map(n, None, None),
                         lambda n: is_fold_map(PAIR, n, None), fold_classes, images_of, lambda n: image_net(n, None),
                         lambda n: folded_by(n, None), lambda n: over_both(n, None, None, None),
                         lambda n: over_both(PAIR, 0, n, None)):
                with self.assertRaises(BadNet):
                    call(value)
        broken = ((1, 0, 3, 2), (0, 1, 2, 3), (2, 3, 0, 1))
        for call in (fold_map, lambda n, other: is_fold_map(n, other, None)):
            for nets, word in (((broken, SPHERE), "still"), ((broken, None), "still"), ((None, broken), "form"),
                               ((PAIR, broken), "still")):
                with self.assertRaises(BadNet) as caught:
                    call(*nets)
                self.assertEqual(caught.exception.word, word)
        for call in (lambda: fold_map(PAIR, SPHERE), lambda: fold_map(SPHERE, PAIR), lambda: is_fold_map(PAIR, SPHERE, None),
                     lambda: is_fold_map(SPHERE, PAIR, None), lambda: fold_classes(PAIR), lambda: images_of(PAIR),
                     lambda: over_both(PAIR, 0, SPHERE, 0), lambda: over_both(SPHERE, 0, PAIR, 0)):
            with self.assertRaises(NotJoined) as caught:
                call()
            self.assertEqual(caught.exception.flag, 4)
        for flag in NO_INTEGERS + [-1, 4]:
            with self.assertRaises(BadFlag):
                over_both(SPHERE, flag, None, None)
            with self.assertRaises(BadFlag) as caught:
                over_both(PAIR, 0, SPHERE, flag)
            self.assertIs(caught.exception.flag, flag)


if __name__ == "__main__":
    unittest.main()
