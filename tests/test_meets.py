import random
import unittest

from common import NO_WORDS, OTHERS, random_word, reduced_words_up_to, rewritten
from netsredrawn.errors import BadTable, BadWord, TooGreat
from netsredrawn.folding import folded
from netsredrawn.lots import generators, holds, index_of, need_table
from netsredrawn.meets import meet, moved_lot, outside, turning_word

NOTHING = folded(())
ALL = folded(("0", "1", "2"))


def random_list(rng, most=3, signs=7):
    return tuple(random_word(rng, signs) for _ in range(rng.randint(1, most)))


def moved(word, mover):
    return rewritten(mover[::-1] + word + mover)


def loose_table(rng, many):
    """A table of so many squares of four numbers, in which two numbers have no change 1."""
    names = list(range(4 * many))
    rng.shuffle(names)
    one = [None] * len(names)
    for at in range(2, len(names), 2):
        one[names[at]], one[names[at + 1]] = names[at + 1], names[at]
    order = [0, 1, 2, 3]
    for here in order:
        there = one[here]
        if there is not None and there not in order:
            order += [there, there ^ 1, there ^ 2, there ^ 3]
    place = {old: new for new, old in enumerate(order)}
    place[None] = None
    zero = tuple(place[old ^ 1] for old in order)
    return zero, tuple(place[one[old]] for old in order), tuple(place[old ^ 2] for old in order)


def full_table(rng, many):
    """A table of a lot of index many, so that each word has a place."""
    while True:
        one = list(range(many))
        for _ in range(many):
            at, other = rng.randrange(many), rng.randrange(many)
            if one[at] == at and one[other] == other:
                one[at], one[other] = other, at
        zero, two = list(range(many)), list(range(many))
        at = 0
        while at < many:
            left = many - at
            kind = rng.randrange(5)
            if kind < 2 and left >= 4:
                for a, b in ((0, 1), (2, 3)):
                    zero[at + a], zero[at + b] = at + b, at + a
                for a, b in ((0, 2), (1, 3)):
                    two[at + a], two[at + b] = at + b, at + a
                at += 4
            elif kind < 4 and left >= 2:
                rows = rng.choice(((zero,), (two,), (zero, two)))
                for row in rows:
                    row[at], row[at + 1] = at + 1, at
                at += 2
            else:
                at += 1
        words = []
        ways = {0: ""}
        rest = [0]
        while rest:
            here = rest.pop(0)
            for change, row in enumerate((zero, one, two)):
                there = row[here]
                if there not in ways:
                    ways[there] = ways[here] + str(change)
                    rest.append(there)
        if len(ways) < many:
            continue
        for here in range(many):
            for change, row in enumerate((zero, one, two)):
                words.append(rewritten(ways[here] + str(change) + ways[row[here]][::-1]))
        words = [word for word in dict.fromkeys(words) if word]
        return words


class MeetsTest(unittest.TestCase):

    def test_meets_by_their_words(self):
        rng = random.Random(1)
        words = reduced_words_up_to(8)
        great = 0
        for _ in range(120):
            one, two = folded(random_list(rng)), folded(random_list(rng))
            both = meet(one, two)
            self.assertIsNone(need_table(both))
            self.assertEqual(both, meet(two, one))
            for word in generators(both):
                self.assertTrue(holds(one, word) and holds(two, word))
            for word in rng.sample(words, 150):
                self.assertIs(holds(both, word), holds(one, word) and holds(two, word))
            great += both != NOTHING
        self.assertGreater(great, 30)

    def test_meets_of_powers(self):
        one, two = folded(("01" * 6,)), folded(("01" * 4,))
        self.assertEqual(meet(one, two), folded(("01" * 12,)))
        self.assertEqual(meet(one, NOTHING), NOTHING)
        self.assertEqual(meet(one, ALL), one)
        self.assertEqual(meet(folded(("0", "1")), folded(("2", "1"))), folded(("1",)))

    def test_great_meets(self):
        one, two = folded(("01" * 25,)), folded(("01" * 24,))
        self.assertEqual(len(meet(one, two)[0]), 2400)
        one, two = folded(("01" * 50,)), folded(("01" * 49,))
        with self.assertRaises(TooGreat) as caught:
            meet(one, two)
        self.assertEqual(caught.exception.most, 2500)
        rng = random.Random(9)
        one, two = loose_table(rng, 625), loose_table(rng, 600)
        for pair in ((one, two), (two, one)):
            with self.assertRaises(TooGreat) as caught:
                meet(*pair)
            self.assertEqual(caught.exception.most, 2500)
        self.assertEqual(meet(one, one), one)
        self.assertEqual(meet(two, ALL), two)
        # What can be cut off does not count.
        tail = "0121" * 10
        one, two = folded((tail + "012012" + tail[::-1],)), folded((tail + "0101" + tail[::-1],))
        self.assertEqual(meet(one, two), NOTHING)

    def test_moved(self):
        rng = random.Random(2)
        for _ in range(150):
            table, word = folded(random_list(rng)), random_word(rng, 9)
            other = moved_lot(table, word)
            self.assertIsNone(need_table(other))
            for one in generators(table):
                self.assertTrue(holds(other, moved(one, word)))
            for one in generators(other):
                self.assertTrue(holds(table, moved(one, word[::-1])))
            self.assertEqual(moved_lot(other, word[::-1]), table)
        self.assertEqual(moved_lot(folded(("0",)), "1"), folded(("101",)))
        self.assertEqual(moved_lot(NOTHING, "0121"), NOTHING)
        self.assertEqual(moved_lot(ALL, "0121"), ALL)
        self.assertEqual(moved_lot(folded(("0",)), "20"), folded(("0",)))

    def test_great_moved(self):
        rng = random.Random(3)
        wordlist = tuple("".join(rng.choice(("0", "2")) + "1" for _ in range(50)) for _ in range(12))
        table = folded(wordlist)
        self.assertLess(len(table[0]), 2500)
        tail = "021" * 20
        far = len(moved_lot(table, tail)[0])
        self.assertEqual(len(moved_lot(table, tail + "021")[0]), far + 4)
        most = (2500 - far) // 4
        self.assertEqual(len(moved_lot(table, tail + "021" * most)[0]), 2500)
        with self.assertRaises(TooGreat) as caught:
            moved_lot(table, tail + "021" * (most + 1))
        self.assertEqual(caught.exception.most, 2500)

    def test_outside(self):
        rng = random.Random(4)
        for _ in range(150):
            one, two = folded(random_list(rng)), folded(random_list(rng))
            missing = [word for word in generators(one) if not holds(two, word)]
            self.assertEqual(outside(one, two), missing[0] if missing else None)
            self.assertIsNone(outside(meet(one, two), one))
        self.assertEqual(outside(ALL, NOTHING), "0")
        self.assertIsNone(outside(NOTHING, NOTHING))

    def test_turning_words_found(self):
        rng = random.Random(5)
        for _ in range(250):
            table, word = folded(random_list(rng)), random_word(rng, 12)
            other = moved_lot(table, word)
            told = turning_word(table, other)
            self.assertEqual(told, rewritten(told))
            self.assertEqual(moved_lot(table, told), other)
        for wordlist in (("1",), ("0",), ("0", "2"), ("02",), ("0", "2", "1"), ("101",), ("01",), ("0", "12")):
            for word in reduced_words_up_to(4):
                table = folded(wordlist)
                other = moved_lot(table, word)
                self.assertEqual(moved_lot(table, turning_word(table, other)), other)
                self.assertEqual(moved_lot(other, turning_word(other, table)), table)

    def test_turning_words_by_trying(self):
        rng = random.Random(6)
        words = reduced_words_up_to(5)
        lists = [("0",), ("1",), ("2",), ("02",), ("0", "2"), ("01",), ("12",), ("021",), ("012",), ("0101",), (),
                 ("0", "1"), ("2", "1"), ("0", "101"), ("1", "010"), ("01", "12")]
        tables = [moved_lot(folded(each), random_word(rng, 2)) for each in lists]
        for table in tables:
            near = {moved_lot(table, word) for word in words}
            for other in tables:
                self.assertIs(turning_word(table, other) is not None, other in near)

    def test_turning_full_tables(self):
        rng = random.Random(7)
        for _ in range(25):
            table = folded(tuple(full_table(rng, rng.randint(2, 4))[:12]))
            for word in reduced_words_up_to(4):
                other = moved_lot(table, word)
                self.assertEqual(index_of(other), index_of(table))
                self.assertEqual(moved_lot(table, turning_word(table, other)), other)

    def test_great_turning(self):
        table = folded(("01" * 50,))
        self.assertEqual(len(table[0]), 200)
        other = moved_lot(table, "0101")
        self.assertEqual(moved_lot(table, turning_word(table, other)), other)
        longer = moved_lot(table, "21")
        self.assertGreater(len(longer[0]), 200)
        for pair in ((table, longer), (longer, table), (longer, longer)):
            with self.assertRaises(TooGreat) as caught:
                turning_word(*pair)
            self.assertEqual(caught.exception.most, 200)

    def test_wrong_values(self):
        for value in OTHERS + [(), "0", 3, NOTHING[:2]]:
            for call in (lambda t: meet(t, None), lambda t: meet(ALL, t), lambda t: moved_lot(t, None),
                         lambda t: outside(t, None), lambda t: outside(ALL, t), lambda t: turning_word(t, None),
                         lambda t: turning_word(ALL, t)):
                with self.assertRaises(BadTable) as caught:
                    call(value)
                self.assertEqual((caught.exception.word, caught.exception.place), ("form", None))
        broken = ((0, 0), (0, 1), (1, 1))
        for call in (meet, outside, turning_word):
            for tables, fault in (((broken, None), ("back", 0)), ((broken, ALL), ("back", 0)), ((ALL, broken), ("back", 0)),
                                  ((None, broken), ("form", None))):
                with self.assertRaises(BadTable) as caught:
                    call(*tables)
                self.assertEqual((caught.exception.word, caught.exception.place), fault)
        for word in NO_WORDS + ["x"]:
            with self.assertRaises(BadWord):
                moved_lot(ALL, word)


if __name__ == "__main__":
    unittest.main()
