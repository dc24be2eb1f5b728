import random
import unittest

from common import NO_INTEGERS, NO_WORDS, random_word, reduced_words_up_to, rewritten
from netsredrawn.classes import least_conjugate
from netsredrawn.errors import BadNumber, BadScript, BadWord, TooGreat
from netsredrawn.turns import (
    TURNS, least_turned, turn_back, turn_of, turn_then, turned, turns_kept, turns_of)


def turned_slowly(word, turn):
    return rewritten("".join(TURNS[turn]["012".index(sign)] for sign in word))


def moved(word, mover):
    return rewritten(mover[::-1] + word + mover)


class TurnsTest(unittest.TestCase):

    def test_the_six(self):
        self.assertEqual(TURNS, (("0", "1", "2"), ("2", "1", "0"), ("02", "1", "2"),
                                 ("0", "1", "02"), ("2", "1", "02"), ("02", "1", "0")))

    def test_turned(self):
        rng = random.Random(10)
        for _ in range(100):
            word = random_word(rng, 12)
            self.assertEqual(turns_of(word), tuple(turned(word, turn) for turn in range(6)))
            for turn in range(6):
                self.assertEqual(turned(word, turn), turned_slowly(word, turn))

    def test_then_and_back(self):
        words = reduced_words_up_to(4)
        for turn in range(6):
            for other in range(6):
                both = turn_then(turn, other)
                for word in words:
                    self.assertEqual(turned(word, both), turned(turned(word, turn), other))
            self.assertEqual(turn_then(turn, turn_back(turn)), 0)
            self.assertEqual(turn_then(turn_back(turn), turn), 0)

    def test_kept_and_least(self):
        for word in reduced_words_up_to(6):
            least = [least_conjugate(turned_slowly(word, turn)) for turn in range(6)]
            kept = tuple(turn for turn in range(6) if least[turn] == least_conjugate(word))
            self.assertEqual(turns_kept(word), kept)
            first = min(least, key=lambda text: (len(text), text))
            self.assertEqual(least_turned(word), (first, least.index(first)))
        self.assertEqual(turns_kept(""), (0, 1, 2, 3, 4, 5))
        self.assertEqual(least_turned("1021"), ("0", least_turned("02")[1]))

    def test_turn_of(self):
        rng = random.Random(11)
        for _ in range(200):
            turn, mover = rng.randrange(6), rewritten(random_word(rng, 8))
            words = tuple(moved(word, mover) for word in TURNS[turn])
            self.assertEqual(turn_of(words), (turn, mover))
        self.assertEqual(turn_of(("00200", "1", "0")), (1, ""))

    def test_turn_of_by_trying(self):
        words = reduced_words_up_to(3)
        told = {}
        for mover in reduced_words_up_to(4):
            for turn in range(6):
                told[tuple(moved(word, mover) for word in TURNS[turn])] = (turn, mover)
        for one in words:
            for two in words:
                for three in words:
                    self.assertEqual(turn_of((one, two, three)), told.get((one, two, three)))

    def test_lengths(self):
        word = "01" * 10000
        self.assertEqual(turned(word, 1), "21" * 10000)
        with self.assertRaises(TooGreat) as caught:
            turned(word, 2)
        self.assertEqual(caught.exception.most, 20000)
        with self.assertRaises(TooGreat) as caught:
            turns_of("01" * 6667)
        self.assertEqual(caught.exception.most, 20000)
        self.assertEqual(len(turns_of("01" * 6666)[2]), 19998)
        self.assertEqual(turns_kept("01" * 3000), (0, 3))
        self.assertEqual(least_turned("21" * 3000), ("01" * 3000, 1))
        for call in (turns_kept, least_turned):
            for text in ("01" * 3000 + "2", "01" * 3001, "21" * 4501):
                with self.assertRaises(TooGreat) as caught:
                    call(text)
                self.assertEqual(caught.exception.most, 9000)

    def test_wrong_values(self):
        for value in NO_WORDS:
            for call in (lambda word: turned(word, None), turns_of, turns_kept, least_turned):
                with self.assertRaises(BadWord) as caught:
                    call(value)
                self.assertIsNone(caught.exception.place)
        for value in NO_INTEGERS + [-1, 6]:
            for call in (lambda turn: turned("0", turn), lambda turn: turn_then(turn, None),
                         lambda turn: turn_then(0, turn), turn_back, lambda turn: turned("01" * 10000, turn)):
                with self.assertRaises(BadNumber) as caught:
                    call(value)
                self.assertIs(caught.exception.value, value)
        for value in (None, [], ["0", "1", "2"], ("0", "1"), ("0", "1", "2", "0"), "012", (), True):
            with self.assertRaises(BadScript) as caught:
                turn_of(value)
            self.assertIsNone(caught.exception.place)
        for value, place in ((("0", "3", None), 1), ((None, "1", "2"), 0), (("0", "1", ("2",)), 2), (("0", 1, "x"), 1)):
            with self.assertRaises(BadScript) as caught:
                turn_of(value)
            self.assertEqual(caught.exception.place, place)


if __name__ == "__main__":
    unittest.main()
