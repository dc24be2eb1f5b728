import random
import unittest

from common import NO_WORDS, led, random_word, reduced_words_up_to, rewritten, small_nets
from netsredrawn.errors import BadWord, TooGreat
from netsredrawn.words import (
    back, is_ahead, is_mirror, is_reduced, mirror_of, reduced, then, times_home)


class WordsTest(unittest.TestCase):

    def test_reduced_leads_alike_and_is_reduced(self):
        rng = random.Random(1)
        nets = small_nets()
        for _ in range(150):
            word = random_word(rng, 14)
            told = reduced(word)
            self.assertEqual(told, rewritten(word))
            self.assertTrue(is_reduced(told))
            for net in nets[::5]:
                for flag in range(len(net[0])):
                    self.assertEqual(led(net, flag, word), led(net, flag, told))

    def test_unlike_reduced_words_are_parted(self):
        nets = small_nets(3, 40)
        rows = {}
        for word in reduced_words_up_to(4):
            rows[word] = tuple(led(net, flag, word) for net in nets for flag in range(len(net[0])))
        self.assertEqual(len(set(rows.values())), len(rows))

    def test_edges(self):
        for word, told in (("", ""), ("20", "02"), ("202", "0"), ("0220", ""), ("00", ""), ("2012", "0212"),
                           ("020", "2"), ("1020201", "101"), ("0122101", "1")):
            self.assertEqual(reduced(word), told)

    def test_back_and_then(self):
        rng = random.Random(2)
        self.assertEqual(back("012"), "210")
        self.assertEqual(back("1021"), "1021")
        self.assertEqual(then("01", "12"), "02")
        for _ in range(300):
            one, two = random_word(rng, 12), random_word(rng, 12)
            self.assertEqual(back(one), rewritten(one[::-1]))
            self.assertEqual(then(one, two), rewritten(one + two))
            self.assertEqual(then(one, back(one)), "")

    def test_is_reduced_looks_at_the_string(self):
        for word in ("00", "11", "22", "20", "0120", "1011"):
            self.assertIs(is_reduced(word), False)
        for word in ("", "0", "02", "02102"):
            self.assertIs(is_reduced(word), True)

    def test_is_ahead(self):
        words = reduced_words_up_to(4)
        for at, word in enumerate(words):
            for other_at, other in enumerate(words):
                self.assertIs(is_ahead(word, other), at < other_at)
        self.assertIs(is_ahead("000", "0"), False)
        self.assertIs(is_ahead("11", "0"), True)

    def test_mirrors(self):
        centers = ("0", "1", "2", "02")
        for word in reduced_words_up_to(7):
            twice = rewritten(word + word)
            mirror = word != "" and twice == ""
            self.assertIs(is_mirror(word), mirror)
            self.assertEqual(times_home(word), 1 if word == "" else 2 if mirror else 0)
            pairs = [(z, a) for z in reduced_words_up_to(3) for a in centers
                     if rewritten(z[::-1]) + a + z == word]
            self.assertEqual(pairs, [mirror_of(word)] if mirror else [])
            if not mirror:
                self.assertIsNone(mirror_of(word))
        self.assertEqual(mirror_of("0110220"), ("", "0"))
        self.assertEqual(mirror_of("2012101"), mirror_of(reduced("2012101")))
        self.assertEqual(mirror_of("021102"), None)
        self.assertEqual(mirror_of("21012"), ("12", "0"))
        self.assertEqual(mirror_of("02102"), ("02", "1"))

    def test_what_mirrors_and_others_leave(self):
        nets = small_nets(5, 60)
        for word in reduced_words_up_to(4):
            stays = any(led(net, flag, word) == flag for net in nets for flag in range(len(net[0])))
            self.assertEqual(stays, not is_mirror(word))

    def test_lengths(self):
        longest = "01" * 10000
        self.assertEqual(reduced(longest), longest)
        self.assertEqual(back(longest), "10" * 10000)
        self.assertEqual(then(longest, ""), longest)
        self.assertEqual(then(longest, "1"), longest[:-1])
        for call in (lambda: reduced(longest + "0"), lambda: back(longest + "0"), lambda: then(longest, "0"),
                     lambda: then("2", longest[1:] + "01")):
            with self.assertRaises(TooGreat) as caught:
                call()
            self.assertEqual(caught.exception.most, 20000)
        self.assertEqual(reduced("0" * 30000), "")

    def test_wrong_words(self):
        for call in (reduced, back, is_reduced, is_mirror, mirror_of, times_home):
            for value in NO_WORDS:
                with self.assertRaises(BadWord) as caught:
                    call(value)
                self.assertIsNone(caught.exception.place)
            for value, place in (("3", 0), ("0 1", 1), ("012x", 3), ("01\n", 2), ("\n", 0), ("012-", 3)):
                with self.assertRaises(BadWord) as caught:
                    call(value)
                self.assertEqual(caught.exception.place, place)

    def test_two_wrong_words(self):
        for call in (then, is_ahead):
            for pair, place in ((("0a", None), 1), ((None, "a"), None), (("0", "10b"), 2), (("0", 1), None)):
                with self.assertRaises(BadWord) as caught:
                    call(*pair)
                self.assertEqual(caught.exception.place, place)
            with self.assertRaises(BadWord):
                call("01" * 10001, "01a")

    def test_by_name(self):
        self.assertEqual(then(word="0", other_word="2"), "02")
        self.assertEqual(reduced(word="20"), "02")
        self.assertTrue(is_ahead(word="0", other_word="2"))


if __name__ == "__main__":
    unittest.main()
