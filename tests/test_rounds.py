import random
import unittest

from common import NO_INTEGERS, NO_WORDS, OTHERS, led, random_net, random_word, small_nets
from netsredrawn.errors import BadFlag, BadNet, BadNumber, BadPair, BadWord
from netsredrawn.rounds import (
    cycle, cycle_length, cycle_number, degrees, euler_number, lead_often, round_of, rounds, word_order)

SPHERE = ((1, 0, 3, 2), (2, 3, 0, 1), (2, 3, 0, 1))


def rounds_slowly(net, words):
    """The rounds, by joining what the words lead to one another."""
    marks = list(range(len(net[0])))
    for word in words:
        for flag in range(len(marks)):
            old, new = marks[flag], marks[led(net, flag, word)]
            marks = [new if mark == old else mark for mark in marks]
    rows = {}
    for flag, mark in enumerate(marks):
        rows.setdefault(mark, []).append(flag)
    return tuple(sorted(tuple(row) for row in rows.values()))


class RoundsTest(unittest.TestCase):

    def test_rounds(self):
        rng = random.Random(1)
        for net in small_nets()[::3]:
            words = tuple(random_word(rng, 6) for _ in range(rng.randint(0, 3)))
            told = rounds(net, words)
            self.assertEqual(told, rounds_slowly(net, words))
            for flag in range(len(net[0])):
                self.assertEqual([row for row in told if flag in row], [round_of(net, flag, words)])
        self.assertEqual(rounds(SPHERE, ()), ((0,), (1,), (2,), (3,)))
        self.assertEqual(rounds(SPHERE, ("",) * 100), ((0,), (1,), (2,), (3,)))
        self.assertEqual(rounds(SPHERE, ("012",)), ((0, 1), (2, 3)))

    def test_degrees_and_euler(self):
        for net in small_nets():
            counts = []
            for pair in ("12", "02", "01"):
                rows = rounds_slowly(net, tuple(pair))
                told = degrees(net, pair)
                self.assertEqual(told, tuple(sorted(len(row) // 2 for row in rows)))
                counts.append(len(rows))
            self.assertEqual(set(degrees(net, "02")), {2})
            self.assertEqual(euler_number(net), counts[0] - counts[1] + counts[2])
        self.assertEqual((degrees(SPHERE, "12"), degrees(SPHERE, "01"), euler_number(SPHERE)), ((1, 1), (2,), 2))

    def test_cycles(self):
        rng = random.Random(2)
        for net in small_nets()[::3]:
            word = random_word(rng, 8)
            cycles = set()
            for flag in range(len(net[0])):
                row = [flag]
                while led(net, row[-1], word) != flag:
                    row.append(led(net, row[-1], word))
                self.assertEqual(cycle(net, flag, word), tuple(row))
                self.assertEqual(cycle_length(net, flag, word), len(row))
                cycles.add(tuple(sorted(row)))
                number = rng.randint(0, 50)
                self.assertEqual(lead_often(net, flag, word, number), led(net, flag, word * number))
                great = 10 ** 30 - rng.randint(0, 9)
                self.assertEqual(lead_often(net, flag, word, great), row[great % len(row)])
            self.assertEqual(cycle_number(net, word), len(cycles))
            order = 1
            while any(led(net, flag, word * order) != flag for flag in range(len(net[0]))):
                order += 1
            self.assertEqual(word_order(net, word), order)
        self.assertEqual(word_order(SPHERE, ""), 1)
        self.assertEqual(lead_often(SPHERE, 1, "0", 10 ** 30), 1)

    def test_great_nets(self):
        rng = random.Random(3)
        net = random_net(rng, 960)
        word = "0121021" * 900
        order = word_order(net, "012")
        flag = 17
        self.assertEqual(lead_often(net, flag, "012", order), flag)
        self.assertEqual(lead_often(net, flag, "0121021", 900), led(net, flag, word))
        self.assertEqual(sum(len(row) for row in rounds(net, ("012", "1"))), 960)

    def test_wrong_pairs(self):
        for pair in (None, True, 12, "21", "20", "10", "", "012", ("1", "2"), ["12"], b"12"):
            with self.assertRaises(BadPair) as caught:
                degrees(SPHERE, pair)
            self.assertIs(caught.exception.value, pair)

    def test_wrong_nets_come_first(self):
        calls = (lambda net: rounds(net, None), lambda net: round_of(net, None, None), lambda net: degrees(net, None),
                 euler_number, lambda net: cycle(net, None, None), lambda net: cycle_length(net, None, None),
                 lambda net: cycle_number(net, None), lambda net: lead_often(net, None, None, None),
                 lambda net: word_order(net, None))
        for value in OTHERS + [(), 4, "0"]:
            for call in calls:
                with self.assertRaises(BadNet):
                    call(value)

    def test_wrong_flags_then_words_then_numbers(self):
        for flag in NO_INTEGERS + [-1, 4]:
            for call in (lambda f: round_of(SPHERE, f, None), lambda f: cycle(SPHERE, f, None),
                         lambda f: cycle_length(SPHERE, f, None), lambda f: lead_often(SPHERE, f, None, None)):
                with self.assertRaises(BadFlag) as caught:
                    call(flag)
                self.assertIs(caught.exception.flag, flag)
        for word in NO_WORDS + ["013"]:
            for call in (lambda w: cycle(SPHERE, 0, w), lambda w: cycle_length(SPHERE, 0, w),
                         lambda w: cycle_number(SPHERE, w), lambda w: lead_often(SPHERE, 0, w, None),
                         lambda w: word_order(SPHERE, w)):
                with self.assertRaises(BadWord) as caught:
                    call(word)
                self.assertEqual(caught.exception.place, 2 if word == "013" else None)
        for number in NO_INTEGERS + [-1, 10 ** 30 + 1]:
            with self.assertRaises(BadNumber) as caught:
                lead_often(SPHERE, 0, "0", number)
            self.assertIs(caught.exception.value, number)

    def test_wrong_word_lists(self):
        cases = ((None, None), (["0"], None), ("0", None), (("0",) * 101, None), (True, None), (("0", "12x", None), 2),
                 (("0", None, "x"), None), ((("0",),), None), ((3,), None), ((None,) * 101, None))
        for words, place in cases:
            for call in (lambda w: rounds(SPHERE, w), lambda w: round_of(SPHERE, 0, w)):
                with self.assertRaises(BadWord) as caught:
                    call(words)
                self.assertEqual(caught.exception.place, place)


if __name__ == "__main__":
    unittest.main()
