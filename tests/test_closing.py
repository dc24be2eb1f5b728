import random
import unittest

from common import NO_WORDS, OTHERS, led, random_word, reduced_words_up_to, rewritten
from netsredrawn.closing import closing_net, completed, opening_net, parting_net
from netsredrawn.errors import BadLot, BadTable, BadWord, TooGreat
from netsredrawn.folding import folded
from netsredrawn.lots import holds, mirror_in
from netsredrawn.nets import net_fault

NOTHING = folded(())


def random_list(rng, most=3, signs=9):
    return tuple(random_word(rng, signs) for _ in range(rng.randint(0, most)))


def ring_table(many):
    """The table of the lot of "021", many times: 4 * many numbers, many from 2 on."""
    zero = tuple(at ^ 1 for at in range(4 * many))
    two = tuple(at ^ 2 for at in range(4 * many))
    one = [None] * (4 * many)
    left, right = 0, 3
    for at in range(4, 4 * many, 4):
        one[left], one[at] = at, left
        left, right = right, at + 3
    one[left], one[right] = right, left
    return zero, tuple(one), two


class ClosingTest(unittest.TestCase):

    def test_closing(self):
        rng = random.Random(1)
        for _ in range(300):
            wordlist = random_list(rng)
            told = closing_net(wordlist)
            self.assertIs(told is None, mirror_in(folded(wordlist)) is not None)
            if told is not None:
                net, flag = told
                self.assertIsNone(net_fault(net))
                for word in wordlist:
                    self.assertEqual(led(net, flag, word), flag)

    def test_mirrors_of_each_kind(self):
        for wordlist in (("0",), ("1",), ("2",), ("02",), ("101",), ("010",), ("01", "02"), ("0101", "1"), ("012", "0120")):
            self.assertIsNone(closing_net(wordlist))
            self.assertIsNone(opening_net(wordlist, "0121"))
            self.assertIsNone(completed(folded(wordlist)))

    def test_completed(self):
        rng = random.Random(2)
        for _ in range(300):
            table = folded(random_list(rng))
            net = completed(table)
            self.assertIs(net is None, mirror_in(table) is not None)
            if net is None:
                continue
            self.assertIsNone(net_fault(net))
            self.assertEqual((net[0], net[2]), (table[0], table[2]))
            loose = [at for at, there in enumerate(table[1]) if there is None]
            for at, there in enumerate(table[1]):
                if there is not None:
                    self.assertEqual(net[1][at], there)
                else:
                    self.assertEqual(net[1][at], loose[loose.index(at) ^ 1])
        self.assertEqual(completed(NOTHING), ((1, 0, 3, 2), (1, 0, 3, 2), (2, 3, 0, 1)))

    def test_great_tables(self):
        self.assertEqual(len(completed(ring_table(240))[0]), 960)
        with self.assertRaises(TooGreat) as caught:
            completed(ring_table(241))
        self.assertEqual(caught.exception.most, 960)
        zero, one, two = ring_table(241)
        loose = [at for at, there in enumerate(one) if there is None][-1]
        with_mirror = (zero, one[:loose] + (loose,) + one[loose + 1:], two)
        self.assertIsNone(completed(with_mirror))

    def test_opening(self):
        rng = random.Random(3)
        for _ in range(400):
            wordlist, word = random_list(rng), random_word(rng, 12)
            table = folded(wordlist)
            told = opening_net(wordlist, word)
            self.assertIs(told is None, mirror_in(table) is not None or holds(table, word))
            if told is not None:
                net, flag = told
                self.assertIsNone(net_fault(net))
                self.assertNotEqual(led(net, flag, word), flag)
                for each in wordlist:
                    self.assertEqual(led(net, flag, each), flag)

    def test_parting(self):
        words = reduced_words_up_to(5)
        rng = random.Random(4)
        for word in words:
            for other in rng.sample(words, 12):
                told = parting_net(word, other)
                self.assertIs(told is None, word == other)
                if told is not None:
                    net, flag = told
                    self.assertIsNone(net_fault(net))
                    self.assertNotEqual(led(net, flag, word), led(net, flag, other))
        self.assertIsNone(parting_net("20", "02"))
        self.assertIsNone(parting_net("0" * 20000, ""))

    def test_lengths(self):
        rng = random.Random(5)
        for _ in range(20):
            words = tuple("".join(rng.choice("02") + "1" for _ in range(20)) for _ in range(9)) + ("1020" * 10,)
            self.assertLessEqual(sum(len(rewritten(word)) for word in words), 400)
            told = closing_net(words)
            if told is not None:
                self.assertIsNone(net_fault(told[0]))
        net, flag = closing_net(("01" * 200,))
        self.assertEqual(led(net, flag, "01" * 200), flag)
        self.assertNotEqual(led(net, flag, "01" * 100), flag)
        net, flag = parting_net("01" * 100, "12" * 100)
        self.assertNotEqual(led(net, flag, "01" * 100), led(net, flag, "12" * 100))
        net, flag = opening_net(("01" * 100,), "21" * 100)
        self.assertNotEqual(led(net, flag, "21" * 100), flag)
        net, flag = closing_net(("0" * 20000, "1" * 20000))
        self.assertIsNone(net_fault(net))
        for call in (lambda: closing_net(("01" * 200, "0")), lambda: opening_net(("01" * 200,), "0"),
                     lambda: opening_net(("01" * 100, "1"), "21" * 100), lambda: parting_net("01" * 200, "0"),
                     lambda: parting_net("01" * 101, "01" * 101), lambda: closing_net(("0", "01" * 200)),
                     lambda: opening_net((), "01" * 201)):
            with self.assertRaises(TooGreat) as caught:
                call()
            self.assertEqual(caught.exception.most, 400)

    def test_wrong_values(self):
        cases = ((None, None), (["0"], None), ("0", None), (("0",) * 13, None), (("0", "3"), 1), (("0" * 20001,), 0),
                 ((None, "3"), 0), (("0" * 20000, True), 1))
        for wordlist, place in cases:
            for call in (closing_net, lambda w: opening_net(w, None)):
                with self.assertRaises(BadLot) as caught:
                    call(wordlist)
                self.assertEqual(caught.exception.place, place)
        for word in NO_WORDS + ["x"]:
            for call in (lambda w: opening_net(("01" * 201,), w), lambda w: parting_net(w, None),
                         lambda w: parting_net("01" * 201, w)):
                with self.assertRaises(BadWord):
                    call(word)
        with self.assertRaises(BadWord) as caught:
            parting_net("0x", None)
        self.assertEqual(caught.exception.place, 1)
        for value in OTHERS + [(), "0"]:
            with self.assertRaises(BadTable) as caught:
                completed(value)
            self.assertEqual(caught.exception.word, "form")


if __name__ == "__main__":
    unittest.main()
