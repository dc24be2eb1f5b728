import unittest

from common import NO_INTEGERS, NO_WORDS, reduced_words, reduced_words_up_to
from netsredrawn.classes import least_conjugate
from netsredrawn.errors import BadNumber, BadWord, TooGreat
from netsredrawn.ranking import classes_of, next_words, number_of, word_numbered, words_of


class RankingTest(unittest.TestCase):

    def test_all_words_one_by_one(self):
        words = reduced_words_up_to(9)
        for number, word in enumerate(words):
            self.assertEqual(number_of(word), number)
            self.assertEqual(word_numbered(number), word)

    def test_of_the_document(self):
        told = ("", "0", "1", "2", "01", "02", "10", "12", "21", "010")
        for number, word in enumerate(told):
            self.assertEqual(number_of(word), number)
        self.assertEqual([words_of(length) for length in range(6)], [1, 3, 5, 8, 13, 21])
        self.assertEqual([classes_of(length) for length in range(7)], [1, 3, 3, 1, 3, 2, 5])

    def test_unreduced_words(self):
        self.assertEqual(number_of("20"), 5)
        self.assertEqual(number_of("0110"), 0)
        self.assertEqual(next_words("20", 1), ("10",))

    def test_counts_by_trying(self):
        for length in range(10):
            words = reduced_words(length)
            self.assertEqual(words_of(length), len(words))
            self.assertEqual(classes_of(length), sum(least_conjugate(word) == word for word in words))

    def test_classes_as_rings(self):
        for length in range(3, 10):
            rings = set()
            for word in reduced_words(length):
                if word[-1] + word[0] not in ("00", "11", "22", "20"):
                    rings.add(min(word[at:] + word[:at] for at in range(length)))
            self.assertEqual(classes_of(length), len(rings))

    def test_great_counts(self):
        for length in (10, 100, 1000, 4000):
            if length > 10:
                self.assertEqual(words_of(length), words_of(length - 1) + words_of(length - 2))
            self.assertEqual(number_of("01" * (length // 2)), sum(words_of(less) for less in range(length)))
        self.assertGreater(classes_of(4000) * 4001, words_of(3995))
        self.assertLess(classes_of(4000) * 3999, words_of(4000))

    def test_great_numbers(self):
        for number in (10 ** 59 + 7, 10 ** 60, 123456789 ** 7, 10 ** 800):
            word = word_numbered(number)
            self.assertEqual(number_of(word), number)
            self.assertEqual(next_words(word, 2), (word_numbered(number + 1), word_numbered(number + 2)))
        word = word_numbered(10 ** 1000 - 1)
        self.assertGreater(len(word), 4000)
        self.assertGreater(len(word_numbered(10 ** 4000)), 19000)
        with self.assertRaises(TooGreat) as caught:
            word_numbered(10 ** 4300)
        self.assertEqual(caught.exception.most, 20000)
        # How many words have at most 20,000 characters.
        counts = [1, 3, 5]
        while len(counts) <= 20000:
            counts.append(counts[-1] + counts[-2])
        self.assertEqual(len(word_numbered(sum(counts) - 1)), 20000)
        with self.assertRaises(TooGreat) as caught:
            word_numbered(sum(counts))
        self.assertEqual(caught.exception.most, 20000)

    def test_next_words(self):
        words = reduced_words_up_to(6)
        for at in range(0, len(words) - 5):
            self.assertEqual(next_words(words[at], 5), tuple(words[at + 1:at + 6]))
        self.assertEqual(next_words("012", 0), ())
        self.assertEqual(len(next_words("", 200)), 200)

    def test_lengths(self):
        longest = "21" * 2000
        self.assertEqual(word_numbered(number_of(longest)), longest)
        self.assertEqual(next_words(longest, 0), ())
        before = word_numbered(number_of(longest) - 3)
        self.assertEqual(next_words(before, 3)[2], longest)
        for call in (lambda: next_words(longest, 1), lambda: next_words(before, 4), lambda: number_of(longest + "2"),
                     lambda: next_words("01" * 2000 + "0", 0)):
            with self.assertRaises(TooGreat) as caught:
                call()
            self.assertEqual(caught.exception.most, 4000)
        self.assertEqual(number_of("0" * 5000), 0)

    def test_wrong_values(self):
        for value in NO_WORDS:
            for call in (number_of, lambda word: next_words(word, None)):
                with self.assertRaises(BadWord):
                    call(value)
        with self.assertRaises(BadWord) as caught:
            next_words("01" * 2001 + "x", None)
        self.assertEqual(caught.exception.place, 4002)
        for value in NO_INTEGERS + [-1]:
            calls = [word_numbered, words_of, classes_of, lambda many: next_words("", many),
                     lambda many: next_words("01" * 2001, many)]
            for call in calls:
                with self.assertRaises(BadNumber) as caught:
                    call(value)
                self.assertIs(caught.exception.value, value)
        for call, value in ((words_of, 4001), (classes_of, 4001), (lambda many: next_words("", many), 201)):
            with self.assertRaises(BadNumber) as caught:
                call(value)
            self.assertEqual(caught.exception.value, value)


if __name__ == "__main__":
    unittest.main()
