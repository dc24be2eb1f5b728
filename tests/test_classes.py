import random
import unittest

from common import NO_WORDS, random_word, reduced_words_up_to, rewritten
from netsredrawn.classes import class_of, commuting, conjugator, least_conjugate, root
from netsredrawn.errors import BadWord, TooGreat


def moved(word, mover):
    return rewritten(rewritten(mover[::-1]) + word + mover)


def short_class(word, most):
    """The words of the class with at most so many characters that short steps reach."""
    met = {rewritten(word)}
    rest = list(met)
    while rest:
        one = rest.pop()
        for sign in ("0", "1", "2"):
            other = moved(one, sign)
            if len(other) <= most and other not in met:
                met.add(other)
                rest.append(other)
    return met


class ClassesTest(unittest.TestCase):

    def test_least_conjugates_by_trying(self):
        for word in reduced_words_up_to(6):
            words = short_class(word, len(word) + 3)
            least = min(words, key=lambda text: (len(text), text))
            self.assertEqual(least_conjugate(word), least)

    def test_of_the_document(self):
        for word in ("021", "210", "102", "012"):
            self.assertEqual(least_conjugate(word), "012")
        self.assertEqual(least_conjugate(""), "")
        for word in ("0", "1", "2", "02"):
            self.assertEqual(least_conjugate(word), word)
            self.assertEqual(least_conjugate("2101" + word + "1012"), word)

    def test_class_of_moves(self):
        rng = random.Random(3)
        for _ in range(300):
            word = random_word(rng, 16)
            least, mover = class_of(word)
            self.assertEqual(least, least_conjugate(word))
            self.assertEqual(mover, rewritten(mover))
            self.assertEqual(moved(least, mover), rewritten(word))

    def test_conjugator(self):
        rng = random.Random(4)
        for _ in range(300):
            word, mover = random_word(rng, 10), random_word(rng, 8)
            other = moved(word, mover)
            told = conjugator(word, other)
            self.assertEqual(told, rewritten(told))
            self.assertEqual(moved(word, told), other)
        words = reduced_words_up_to(4)
        for word in words:
            near = short_class(word, 8)
            for other in words:
                told = conjugator(word, other)
                self.assertEqual(told is not None, other in near)
                if told is not None:
                    self.assertEqual(moved(word, told), other)

    def test_roots(self):
        for word in reduced_words_up_to(4):
            for times in range(1, 5):
                power = rewritten(word * times)
                told, many = root(power)
                if len(rewritten(word + word)) == 0:
                    self.assertEqual((told, many), (power, 1))
                    continue
                self.assertEqual(rewritten(told * many), power)
                self.assertEqual(many % times, 0)
        for word in reduced_words_up_to(5):
            told, many = root(word)
            for other in reduced_words_up_to(4):
                for times in range(many + 1, 6):
                    if rewritten(word + word) != "":
                        self.assertNotEqual(rewritten(other * times), word)
        self.assertEqual(root("0102" * 3), ("0102", 3))
        self.assertEqual(root("020202"), ("02", 1))

    def test_commuting(self):
        words = reduced_words_up_to(5)
        self.assertEqual(commuting(""), ("all", ()))
        self.assertEqual(commuting("101"), ("few", ("", "101", "121", "1021")))
        self.assertEqual(commuting("010"), ("few", ("", "010")))
        for word in words:
            kind, told = commuting(word)
            here = [other for other in words if rewritten(word + other) == rewritten(other + word)]
            if kind == "few":
                self.assertEqual([other for other in told if len(other) <= 5], here)
                self.assertEqual(list(told), sorted(told, key=lambda text: (len(text), text)))
            if kind == "powers":
                powers = set()
                for times in range(6):
                    powers.add(rewritten(told[0] * times))
                    powers.add(rewritten(rewritten(told[0][::-1]) * times))
                self.assertTrue(set(here) <= powers)
                self.assertEqual(told, (root(word)[0],))

    def test_lengths(self):
        longest = ("01" + "21" * 4499)
        self.assertEqual(len(longest), 9000)
        self.assertEqual(least_conjugate(longest), longest)
        turned = "21" * 4499 + "01"
        self.assertEqual(least_conjugate(turned), longest)
        self.assertEqual(root("01" * 4500), ("01", 4500))
        self.assertEqual(moved(longest, conjugator(longest, turned)), turned)
        mirror = "01" * 2249 + "2" + "10" * 2249
        self.assertEqual(least_conjugate(mirror), "2")
        self.assertEqual(commuting(mirror)[0], "few")
        self.assertEqual(least_conjugate("00" * 9000), "")
        long = longest + "0"
        for call in (least_conjugate, class_of, root, commuting, lambda word: conjugator("0", word),
                     lambda word: conjugator(word, "0")):
            with self.assertRaises(TooGreat) as caught:
                call(long)
            self.assertEqual(caught.exception.most, 9000)

    def test_wrong_words(self):
        for call in (least_conjugate, class_of, root, commuting, lambda word: conjugator("0", word),
                     lambda word: conjugator(word, "0")):
            for value in NO_WORDS:
                with self.assertRaises(BadWord) as caught:
                    call(value)
                self.assertIsNone(caught.exception.place)
            with self.assertRaises(BadWord) as caught:
                call("0124")
            self.assertEqual(caught.exception.place, 3)

    def test_words_ahead_of_lengths(self):
        with self.assertRaises(BadWord) as caught:
            conjugator("01" * 5000, "0x")
        self.assertEqual(caught.exception.place, 1)
        with self.assertRaises(BadWord) as caught:
            conjugator("y", None)
        self.assertEqual(caught.exception.place, 0)


if __name__ == "__main__":
    unittest.main()
