import random
import unittest

from common import NO_INTEGERS, NO_WORDS, OTHERS, led, random_net, random_word, reduced_words, rewritten, small_nets
from netsredrawn.errors import BadFlag, BadNet, BadWord, NotJoined, TooGreat
from netsredrawn.nets import (
    action, beside, is_joined, is_net, lead, need_flag, need_joined, need_net, net_fault, part_net, parts, path, way)

SPHERE = ((1, 0, 3, 2), (2, 3, 0, 1), (2, 3, 0, 1))
ZERO, TWO = (1, 0, 3, 2), (2, 3, 0, 1)


def fault_slowly(net):
    zero, one, two = net
    flags = range(len(zero))
    rules = (("back", lambda f: any(row[row[f]] != f for row in net)),
             ("still", lambda f: any(row[f] == f for row in net)),
             ("square", lambda f: two[zero[f]] != zero[two[f]]), ("apart", lambda f: two[zero[f]] == f))
    for word, fails in rules:
        for flag in flags:
            if fails(flag):
                return word, flag
    return None


def great_net(rng, many):
    return random_net(rng, many)


class NetsTest(unittest.TestCase):

    def test_nets_are_nets(self):
        rng = random.Random(1)
        for net in small_nets() + [random_net(rng, 960)]:
            self.assertIsNone(net_fault(net))
            self.assertIs(is_net(net), True)
            self.assertIs(need_net(net), net)

    def test_faults_by_trying(self):
        rng = random.Random(2)
        kinds = set()
        for _ in range(4000):
            net = [list(row) for row in random_net(rng, 4 * rng.randint(1, 3))]
            for _ in range(rng.randint(1, 4)):
                row = rng.choice(net)
                flag, other = rng.randrange(len(row)), rng.randrange(len(row))
                if rng.random() < 0.5:
                    row[flag] = other
                else:
                    row[row[flag]], row[row[other]] = other, flag
                    row[flag], row[other] = row[other], row[flag]
            net = tuple(map(tuple, net))
            self.assertEqual(net_fault(net), fault_slowly(net))
            kinds.add((net_fault(net) or ("none",))[0])
        self.assertEqual(kinds, {"none", "back", "still", "square", "apart"})

    def test_told_faults(self):
        cases = (
            (((1, 0, 3, 2), (2, 3, 0, 0), TWO), ("back", 1)),
            (((1, 0, 2, 3), (2, 3, 0, 1), TWO), ("still", 2)),
            (((1, 0, 3, 2, 5, 4), (1, 0, 3, 2, 5, 4), (2, 4, 0, 5, 1, 3)), ("square", 0)),
            ((ZERO, TWO, ZERO), ("apart", 0)),
            (((1, 0, 3, 2, 4), (1, 0, 3, 2, 4), (2, 3, 0, 1, 4)), ("still", 4)),
            (((0, 1, 2, 3), (0, 0, 0, 0), TWO), ("back", 1)),
        )
        for net, fault in cases:
            self.assertEqual(net_fault(net), fault)
            self.assertIs(is_net(net), False)

    def test_forms(self):
        wrong = OTHERS + [
            (), (ZERO, ZERO), (ZERO, ZERO, TWO, TWO), [ZERO, TWO, TWO], (list(ZERO), TWO, TWO), (ZERO, list(TWO), TWO),
            (ZERO, TWO, None), ((1, 0, 3, 4), TWO, TWO), ((1, 0, 3, -2), TWO, TWO), ((True, 0, 3, 2), TWO, TWO),
            ((1, False, 3, 2), TWO, TWO), ((1, "0", 3, 2), TWO, TWO), ((1, None, 3, 2), TWO, TWO),
            ((1, 0, 3), TWO, TWO), (ZERO, TWO + (4,), TWO), ((), (), ()), ((1, 0), (1, 0), (1, 0)),
            ((1, (0,), 3, 2), TWO, TWO), "010", 7, (ZERO, TWO + (0,), TWO), (ZERO, TWO, TWO + (3,)), (ZERO, TWO[:3], TWO),
            (ZERO, TWO, ()), (ZERO, TWO, list(TWO))]
        rng = random.Random(3)
        wrong.append(random_net(rng, 964))
        for value in wrong:
            self.assertEqual(net_fault(value), ("form", None))
            with self.assertRaises(BadNet) as caught:
                need_net(value)
            self.assertEqual((caught.exception.word, caught.exception.flag), ("form", None))

    def test_lead_path_action(self):
        rng = random.Random(4)
        for net in small_nets()[::4]:
            word = random_word(rng, 20)
            flags = range(len(net[0]))
            self.assertEqual(action(net, word), tuple(led(net, flag, word) for flag in flags))
            for flag in flags:
                self.assertEqual(lead(net, flag, word), led(net, flag, word))
                self.assertEqual(path(net, flag, word),
                                 tuple(led(net, flag, word[:end]) for end in range(len(word) + 1)))
        self.assertEqual(path(SPHERE, 1, ""), (1,))
        self.assertEqual(path(SPHERE, 0, "0022"), (0, 1, 0, 2, 0))
        self.assertEqual(action(SPHERE, ""), (0, 1, 2, 3))

    def test_way_by_trying(self):
        rng = random.Random(5)
        for _ in range(12):
            net = random_net(rng, 8)
            for flag in range(8):
                left = set(range(8))
                for length in range(9):
                    for word in reduced_words(length):
                        there = led(net, flag, word)
                        if there in left:
                            left.remove(there)
                            self.assertEqual(way(net, flag, there), word)
                for there in left:
                    self.assertIsNone(way(net, flag, there))
        net = random_net(rng, 960)
        for there in range(0, 960, 97):
            word = way(net, 5, there)
            if word is not None:
                self.assertEqual(led(net, 5, word), there)
                self.assertEqual(rewritten(word), word)

    def test_parts(self):
        rng = random.Random(6)
        for _ in range(30):
            net = random_net(rng, 4 * rng.randint(1, 6))
            told = parts(net)
            self.assertEqual(sorted(flag for part in told for flag in part), list(range(len(net[0]))))
            self.assertEqual(list(told), sorted(told))
            for part in told:
                self.assertEqual(list(part), sorted(part))
                self.assertEqual({row[flag] for row in net for flag in part}, set(part))
                small, flags = part_net(net, part[-1])
                self.assertEqual(flags, part)
                self.assertTrue(is_joined(small))
                for change in range(3):
                    self.assertEqual([flags[there] for there in small[change]], [net[change][flag] for flag in flags])
            self.assertIs(is_joined(net), len(told) == 1)
            if len(told) == 1:
                self.assertIs(need_joined(net), net)
            else:
                with self.assertRaises(NotJoined) as caught:
                    need_joined(net)
                self.assertEqual(caught.exception.flag, min(set(range(len(net[0]))) - set(told[0])))

    def test_beside(self):
        rng = random.Random(7)
        one, two = random_net(rng, 12), random_net(rng, 8)
        both = beside(one, two)
        self.assertIsNone(net_fault(both))
        for change in range(3):
            self.assertEqual(both[change][:12], one[change])
            self.assertEqual([flag - 12 for flag in both[change][12:]], list(two[change]))
        half = random_net(rng, 480)
        self.assertEqual(len(beside(half, half)[0]), 960)
        with self.assertRaises(TooGreat) as caught:
            beside(half, random_net(rng, 484))
        self.assertEqual(caught.exception.most, 960)

    def test_wrong_flags(self):
        calls = (need_flag, lambda net, flag: lead(net, flag, None), lambda net, flag: path(net, flag, None),
                 lambda net, flag: way(net, flag, None), lambda net, flag: way(net, 0, flag), part_net)
        for flag in NO_INTEGERS + [-1, 4, 10 ** 30]:
            for call in calls:
                with self.assertRaises(BadFlag) as caught:
                    call(SPHERE, flag)
                self.assertIs(caught.exception.flag, flag)
        self.assertEqual(need_flag(SPHERE, 3), 3)

    def test_wrong_words(self):
        for word in NO_WORDS + ["3", "0 1"]:
            for call in (lambda net, w: lead(net, 0, w), lambda net, w: path(net, 0, w), action):
                with self.assertRaises(BadWord):
                    call(SPHERE, word)

    def test_wrong_nets_come_first(self):
        for value in OTHERS + [(), "x", 3]:
            calls = (lambda net: lead(net, None, None), lambda net: path(net, -1, None), lambda net: action(net, 3),
                     lambda net: way(net, None, 0), parts, is_joined, need_joined, lambda net: part_net(net, True),
                     lambda net: beside(net, None), lambda net: beside(SPHERE, net), need_net)
            for call in calls:
                with self.assertRaises(BadNet):
                    call(value)
        with self.assertRaises(BadNet) as caught:
            beside((ZERO, TWO, ZERO), None)
        self.assertEqual(caught.exception.word, "apart")


if __name__ == "__main__":
    unittest.main()
