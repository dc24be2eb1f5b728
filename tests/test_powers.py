import random
import unittest

from common import NO_INTEGERS, STRANGE, random_word, rewritten
from netsredrawn.errors import BadNumber, BadScript, BadWord, TooGreat
from netsredrawn.powers import (
    are_same_rows, done_times, need_row, row_character, row_length, row_word)

GREAT = 10 ** 60


def written(row):
    """The reduced word of a row, written out."""
    text = ""
    for word, times in row:
        one = rewritten(word if times >= 0 else word[::-1])
        for _ in range(abs(times)):
            text = rewritten(text + one)
    return text


def undone(row):
    return tuple((word, -times) for word, times in reversed(row))


class PowersTest(unittest.TestCase):

    def test_rows_against_written_ones(self):
        rng = random.Random(5)
        for _ in range(600):
            row = tuple((random_word(rng, 6), rng.randint(-5, 5)) for _ in range(rng.randint(0, 6)))
            word = written(row)
            self.assertEqual(row_word(row), word)
            self.assertEqual(row_length(row), len(word))
            self.assertEqual("".join(row_character(row, place) for place in range(len(word))), word)

    def test_rows_that_undo_much(self):
        rng = random.Random(6)
        words = ["01", "10", "0102", "12", "21", "012", "0", "1", "02", "101", "1021", "01021"]
        for _ in range(600):
            row = tuple((rng.choice(words), rng.randint(-7, 7)) for _ in range(rng.randint(2, 8)))
            other = tuple((rng.choice(words), rng.randint(-7, 7)) for _ in range(rng.randint(1, 3)))
            self.assertEqual(row_word(row), written(row))
            self.assertEqual(row_word(row + other + undone(row)), written(row + other + undone(row)))

    def test_great_times(self):
        row = (("01", 10 ** 30), ("2", 1))
        self.assertEqual(row_length(row), 2 * 10 ** 30 + 1)
        self.assertEqual(row_character(row, 10 ** 30 + 1), "1")
        self.assertEqual(row_character(row, 2 * 10 ** 30), "2")
        self.assertEqual(row_length((("0121", GREAT), ("0", 1), ("0121", -GREAT))), 8 * GREAT + 1)
        self.assertEqual(row_length((("01", GREAT), ("01", -GREAT))), 0)
        self.assertEqual(row_word((("01", GREAT), ("12", 5), ("21", 5), ("10", GREAT - 1))), "01")
        self.assertEqual(row_word((("0101", GREAT), ("01", 3 - 2 * GREAT))), "010101")
        self.assertEqual(row_word((("101", GREAT),)), "")
        self.assertEqual(row_word((("101", GREAT + 1),)), "101")
        self.assertEqual(row_word((("02", -GREAT - 1),)), "02")
        # A word as in the fact of [22]: its length, and its least conjugate's for each further time.
        self.assertEqual(row_length((("10121", GREAT),)), len(written((("10121", 1),))) +
                         (GREAT - 1) * (len(written((("10121", 2),))) - len(written((("10121", 1),)))))

    def test_great_rows_like_small_ones(self):
        rng = random.Random(7)
        words = ["01", "0121", "012", "102", "10121", "2101", "01021"]
        for _ in range(200):
            parts = [(rng.choice(words), rng.choice((-1, 1)) * rng.randint(5, 9)) for _ in range(4)]
            small = tuple(parts)
            twice = undone(small) + small
            self.assertEqual(row_word(twice), "")
            great = tuple((word, times * GREAT) for word, times in parts)
            self.assertEqual(row_length(undone(great) + great), 0)
            self.assertTrue(are_same_rows(great, great + (("0", 2),)))
            self.assertFalse(are_same_rows(great, great + (("0", 1),)))

    def test_same_rows(self):
        rng = random.Random(8)
        for _ in range(500):
            rows = [tuple((random_word(rng, 3), rng.randint(-3, 3)) for _ in range(rng.randint(0, 3)))
                    for _ in range(2)]
            self.assertIs(are_same_rows(*rows), written(rows[0]) == written(rows[1]))
        self.assertTrue(are_same_rows((), (("0", 2),)))
        self.assertTrue(are_same_rows((("01", GREAT),), (("10", -GREAT),)))
        self.assertFalse(are_same_rows((("01", GREAT),), (("10", GREAT),)))
        row = (("01", 2),) * 40
        self.assertTrue(are_same_rows(row, (("01", 80),)))

    def test_written_lengths(self):
        self.assertEqual(row_word((("01", 10000),)), "01" * 10000)
        self.assertEqual(done_times("01", -10000), "10" * 10000)
        self.assertEqual(row_word((("01", GREAT), ("2", 1), ("2", 1), ("10", GREAT))), "")
        for call in (lambda: row_word((("01", 10000), ("2", 1))), lambda: row_word((("01", GREAT),)),
                     lambda: done_times("01", 10001), lambda: done_times("012" * 6666 + "12012", 1)):
            with self.assertRaises(TooGreat) as caught:
                call()
            self.assertEqual(caught.exception.most, 20000)

    def test_done_times(self):
        rng = random.Random(9)
        for _ in range(200):
            word, times = random_word(rng, 7), rng.randint(-6, 6)
            self.assertEqual(done_times(word, times), written(((word, times),)))
        self.assertEqual(done_times("01" * 5000, 2), "01" * 10000)
        self.assertEqual(done_times("1" * 3001, GREAT + 1), "1")
        self.assertEqual(done_times("", GREAT), "")

    def test_need_row(self):
        for row in ((), (("20", 5),), (("0" * 2000, 0),) * 40, (("", -GREAT),)):
            self.assertIs(need_row(row), row)

    def test_wrong_rows(self):
        calls = [need_row, row_length, row_word, lambda row: row_character(row, "x"),
                 lambda row: are_same_rows(row, None), lambda row: are_same_rows((), row)]
        cases = [(None, None), ([], None), ([("0", 1)], None), ("0", None), (True, None), (STRANGE, None),
                 ((("0", 1),) * 41, None), ((None,) * 41, None), ({}, None),
                 ((("0", 1), ["0", 1]), 1), ((("0", 1), ("0", 1, 1)), 1), ((("0", True),), 0),
                 ((("0", 1), ("3", 1), None), 1), ((("0", "1"),), 0), (((0, 1),), 0), ((("0" * 2001, 1),), 0),
                 ((("0", None),), 0), ((b"0",), 0), (("01",), 0), (((("0",), 1),), 0)]
        for call in calls:
            for row, place in cases:
                with self.assertRaises(BadScript) as caught:
                    call(row)
                self.assertEqual(caught.exception.place, place)

    def test_wrong_places(self):
        row = (("01", 3),)
        for place in NO_INTEGERS + [-1, 6, GREAT]:
            with self.assertRaises(BadNumber) as caught:
                row_character(row, place)
            self.assertIs(caught.exception.value, place)
        with self.assertRaises(BadNumber):
            row_character((), 0)

    def test_wrong_times(self):
        for times in NO_INTEGERS:
            with self.assertRaises(BadNumber) as caught:
                done_times("0", times)
            self.assertIs(caught.exception.value, times)
        with self.assertRaises(BadWord) as caught:
            done_times("0 ", None)
        self.assertEqual(caught.exception.place, 1)
        with self.assertRaises(BadNumber):
            done_times("01" * 10001, None)


if __name__ == "__main__":
    unittest.main()
