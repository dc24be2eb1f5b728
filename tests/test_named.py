import random
import unittest
from math import comb, factorial

from common import NO_INTEGERS, OTHERS, every_net, is_joined_slowly, random_net, small_nets
from netsredrawn.errors import BadName, BadNet, BadNumber, BadTable, TooGreat
from netsredrawn.listing import all_nets, rooted_number
from netsredrawn.named import bundle, glued, gluing_of, grid, is_gluing, ring, solid, twisted_grid
from netsredrawn.nets import net_fault
from netsredrawn.rounds import degrees, euler_number
from netsredrawn.shapes import are_alike, least_net, reading_from, symmetry_number


def glued_slowly(gluing):
    """The net, change by change, from what the document says of sides."""
    sides = [(face, at) for face in range(len(gluing)) for at in range(len(gluing[face]))]
    number = {side: place for place, side in enumerate(sides)}
    rows = [{}, {}, {}]
    for (face, at), place in number.items():
        rows[0][2 * place], rows[0][2 * place + 1] = 2 * place + 1, 2 * place
        behind = number[face, (at + 1) % len(gluing[face])]
        rows[1][2 * place + 1] = 2 * behind
        rows[1][2 * behind] = 2 * place + 1
        for (other_face, other_at), other in number.items():
            one, two = gluing[face][at], gluing[other_face][other_at]
            if other != place and abs(one) == abs(two):
                rows[2][2 * place] = 2 * other + (one == -two)
                rows[2][2 * place + 1] = 2 * other + (one == two)
    return tuple(tuple(row[flag] for flag in range(2 * len(sides))) for row in rows)


def two_sided(net):
    """Whether the flags can be dyed so that each change leads to the other color."""
    colors = {0: 0}
    rest = [0]
    while rest:
        flag = rest.pop()
        for row in net:
            if row[flag] not in colors:
                colors[row[flag]] = 1 - colors[flag]
                rest.append(row[flag])
            elif colors[row[flag]] == colors[flag]:
                return False
    return True


def random_gluing(rng, edges):
    numbers = [number for number in rng.sample(range(1, 3 * edges), edges) for _ in range(2)]
    rng.shuffle(numbers)
    numbers = [number * rng.choice((1, -1)) for number in numbers]
    faces = []
    while numbers:
        cut = rng.randint(1, len(numbers))
        faces.append(tuple(numbers[:cut]))
        numbers = numbers[cut:]
    return tuple(faces)


class ListingTest(unittest.TestCase):

    def test_small_nets(self):
        for many in (4, 8):
            forms = {least_net(net) for net in every_net(many) if is_joined_slowly(net)}
            self.assertEqual(all_nets(many), tuple(sorted(forms)))

    def test_readings_are_the_rooted_number(self):
        for many in (4, 8, 12, 16):
            nets = all_nets(many)
            self.assertEqual(list(nets), sorted(set(nets)))
            total = 0
            for net in nets:
                self.assertTrue(is_joined_slowly(net))
                self.assertEqual(len(net[0]), many)
                readings = many // symmetry_number(net)
                total += readings
                if many < 12:
                    self.assertEqual(len({reading_from(net, flag) for flag in range(many)}), readings)
                    self.assertEqual(least_net(net), net)
            self.assertEqual(total, rooted_number(many // 4))

    def test_nets_drawn_at_random_are_listed(self):
        rng = random.Random(1)
        nets = all_nets(16)
        for _ in range(40):
            net = random_net(rng, 16)
            if is_joined_slowly(net):
                self.assertIn(least_net(net), nets)

    def test_rooted_numbers(self):
        every = [1]
        for edges in range(1, 201):
            product = 1
            for odd in range(1, 4 * edges, 2):
                product *= odd
            every.append(product)
        told = [0]
        for edges in range(1, 201):
            told.append(every[edges] - sum(comb(edges - 1, k - 1) * told[k] * every[edges - k] for k in range(1, edges)))
            number, rest = divmod(told[edges], factorial(edges - 1) * 4 ** (edges - 1))
            self.assertEqual(rest, 0)
            if edges < 12 or edges % 40 == 0:
                self.assertEqual(rooted_number(edges), number)

    def test_wrong_numbers(self):
        for value in NO_INTEGERS + [0, 3, 5, 6, 10, 20, -4]:
            with self.assertRaises(BadNumber) as caught:
                all_nets(value)
            self.assertIs(caught.exception.value, value)
        for value in NO_INTEGERS + [0, -1, 201]:
            with self.assertRaises(BadNumber) as caught:
                rooted_number(value)
            self.assertIs(caught.exception.value, value)


class NamedTest(unittest.TestCase):

    def test_glued(self):
        rng = random.Random(2)
        for _ in range(150):
            gluing = random_gluing(rng, rng.randint(1, 8))
            self.assertIs(is_gluing(gluing), True)
            net = glued(gluing)
            self.assertIsNone(net_fault(net))
            self.assertEqual(net, glued_slowly(gluing))
            self.assertEqual(degrees(net, "01"), tuple(sorted(map(len, gluing))))
            self.assertTrue(are_alike(glued(gluing_of(net)), net))
        self.assertEqual(glued(((1, -1),)), ((1, 0, 3, 2), (3, 2, 1, 0), (3, 2, 1, 0)))
        self.assertEqual(glued(((10 ** 60,), (10 ** 60,))), glued(((5,), (5,))))

    def test_read_off(self):
        for net in small_nets(3, 30):
            gluing = gluing_of(net)
            self.assertTrue(is_gluing(gluing))
            self.assertTrue(are_alike(glued(gluing), net))
            numbers = [abs(side) for face in gluing for side in face]
            self.assertEqual(list(dict.fromkeys(numbers)), list(range(1, len(net[0]) // 4 + 1)))
            first = {}
            for face in gluing:
                for side in face:
                    if abs(side) not in first:
                        self.assertGreater(side, 0)
                        first[abs(side)] = True
            # Faces by their least flags, each begun there.
            left = set(range(len(net[0])))
            for face in gluing:
                flag = min(left)
                for _ in face:
                    left -= {flag, net[0][flag]}
                    flag = net[1][net[0][flag]]
            self.assertEqual(left, set())
        self.assertEqual(gluing_of(((1, 0, 3, 2), (3, 2, 1, 0), (3, 2, 1, 0))), ((1, -1),))
        self.assertEqual(gluing_of(((1, 0, 3, 2), (3, 2, 1, 0), (2, 3, 0, 1))), ((1, 1),))
        self.assertEqual(gluing_of(((1, 0, 3, 2), (1, 0, 3, 2), (2, 3, 0, 1))), ((1,), (1,)))

    def test_great_gluings(self):
        rng = random.Random(3)
        gluing = random_gluing(rng, 240)
        self.assertEqual(len(glued(gluing)[0]), 960)
        self.assertTrue(are_alike(glued(gluing_of(glued(gluing))), glued(gluing)))
        self.assertIs(is_gluing(random_gluing(rng, 241)), False)

    def test_wrong_gluings(self):
        form = OTHERS + [(), ((),), ((1, 1), ()), ([1, 1],), ((1, True),), ((1, 0, 1, 0),), ((1, "1"),), ((1, None),), ((1,),),
                         "11", (1, 1), ((1, (1,)),), random_gluing(random.Random(4), 241), ((1,) * 481,), 7]
        for value in form:
            self.assertIs(is_gluing(value), False)
            with self.assertRaises(BadTable) as caught:
                glued(value)
            self.assertEqual((caught.exception.word, caught.exception.place), ("form", None))
        for value, number in ((((1, 2),), 1), (((1, 2, -1),), 2), (((5, 5, 5),), 5), (((9, 3, -3, 3, 9),), 3),
                              (((1, 1), (-7, 4, 4, 4)), 4), (((3,), (-2,), (3,)), 2), (((1, 1, 1, 1),), 1)):
            self.assertIs(is_gluing(value), False)
            with self.assertRaises(BadTable) as caught:
                glued(value)
            self.assertEqual((caught.exception.word, caught.exception.place), ("twice", number))
        for value in OTHERS:
            with self.assertRaises(BadNet):
                gluing_of(value)

    def test_rings_and_bundles(self):
        for number in (1, 2, 3, 7, 240):
            edges = tuple(range(1, number + 1))
            self.assertEqual(ring(number), glued((edges, tuple(-edge for edge in edges[::-1]))))
            self.assertEqual(bundle(number), glued(tuple((edge, -(edge % number + 1)) for edge in edges)))
            self.assertEqual((degrees(ring(number), "12"), degrees(ring(number), "01")), ((2,) * number, (number,) * 2))
            self.assertEqual((degrees(bundle(number), "01"), degrees(bundle(number), "12")), ((2,) * number, (number,) * 2))
            self.assertEqual((euler_number(ring(number)), euler_number(bundle(number))), (2, 2))
        for call in (ring, bundle):
            for value in NO_INTEGERS + [0, -1, 241]:
                with self.assertRaises(BadNumber) as caught:
                    call(value)
                self.assertIs(caught.exception.value, value)

    def test_grids(self):
        for wide, high in ((1, 1), (1, 4), (4, 1), (3, 2), (2, 3), (12, 10), (120, 1), (1, 120)):
            def across(x, y):
                return y * wide + x + 1

            def up(x, y):
                return wide * high + y * wide + x + 1
            faces, twisted = [], []
            for y in range(high):
                for x in range(wide):
                    face = (across(x, y), up((x + 1) % wide, y), -across(x, (y + 1) % high), -up(x, y))
                    faces.append(face)
                    twisted.append(face if x < wide - 1 else (face[0], -up(0, high - 1 - y)) + face[2:])
            self.assertEqual(grid(wide, high), glued(tuple(faces)))
            self.assertEqual(twisted_grid(wide, high), glued(tuple(twisted)))
            for net, sides in ((grid(wide, high), True), (twisted_grid(wide, high), False)):
                self.assertEqual(set(degrees(net, "01")) | set(degrees(net, "12")), {4})
                self.assertEqual(euler_number(net), 0)
                self.assertIs(two_sided(net), sides)
        for call in (grid, twisted_grid):
            for value in NO_INTEGERS + [0, -1, 121]:
                for pair in ((value, 0), (value, 3), (3, value), (120, value)):
                    with self.assertRaises(BadNumber) as caught:
                        call(*pair)
                    self.assertIs(caught.exception.value, value)
            for pair in ((11, 11), (120, 2), (2, 61)):
                with self.assertRaises(TooGreat) as caught:
                    call(*pair)
                self.assertEqual(caught.exception.most, 120)

    def test_solids(self):
        told = {"tetra": (3, 3, 6), "cube": (4, 3, 12), "octa": (3, 4, 12), "dodeca": (5, 3, 30), "icosa": (3, 5, 30)}
        for name, (faces, corners, edges) in told.items():
            net = solid(name)
            self.assertIsNone(net_fault(net))
            self.assertTrue(is_joined_slowly(net) and two_sided(net))
            self.assertEqual(len(net[0]), 4 * edges)
            self.assertEqual((set(degrees(net, "01")), set(degrees(net, "12"))), ({faces}, {corners}))
            self.assertEqual(euler_number(net), 2)
            self.assertEqual(symmetry_number(net), 4 * edges)
        for value in OTHERS + ["", "Cube", "tetra ", ("cube",), 4, b"cube"]:
            with self.assertRaises(BadName) as caught:
                solid(value)
            self.assertIs(caught.exception.name, value)


if __name__ == "__main__":
    unittest.main()
