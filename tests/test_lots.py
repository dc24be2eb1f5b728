import itertools
import random
import unittest

from common import NO_INTEGERS, NO_WORDS, OTHERS, random_word, reduced_words_up_to, rewritten
from netsredrawn.errors import BadLot, BadNumber, BadPaper, BadTable, BadWord
from netsredrawn.folding import folded, lot_table_of, paper_word, spelled
from netsredrawn.lots import (
    generators, holds, index_of, kinds, mirror_in, need_table, parsed, place_of, way_to)

NOTHING = ((1, 0, 3, 2), (None,) * 4, (2, 3, 0, 1))
# "0" and "1", by hand: the place of "2" is the other number.
SMALL = ((0, 1), (0, None), (1, 0))
ALL = ((0,), (0,), (0,))


def random_list(rng, most=3, signs=9):
    return tuple(random_word(rng, signs) for _ in range(rng.randint(0, most)))


def read_paper(wordlist, paper):
    """The word that a paper tells, row by row."""
    made = []
    for row in paper:
        if row[0] == "word":
            made.append(rewritten(wordlist[row[1]]))
        elif row[0] == "back":
            made.append(rewritten(made[row[1]][::-1]))
        else:
            made.append(rewritten(made[row[1]] + made[row[2]]))
    return made[-1] if made else ""


def fault_slowly(value):
    """The first rule that fails and its place, of a value that keeps "form"."""
    zero, one, two = value
    many = len(zero)
    for at in range(many):
        if any(row[at] is not None and row[row[at]] != at for row in value):
            return "back", at
    for at in range(many):
        if two[zero[at]] != zero[two[at]]:
            return "square", at
    met = []
    for at in (0, zero[0], two[0], two[zero[0]]):
        if at not in met:
            met.append(at)
    place = 0
    while place < len(met):
        there = one[met[place]]
        if there is not None and there not in met:
            for at in (there, zero[there], two[there], two[zero[there]]):
                if at not in met:
                    met.append(at)
        place += 1
    for place, at in enumerate(met):
        if place != at:
            return "order", place
    if len(met) < many:
        return "order", len(met)
    for at in range(many):
        square = {at, zero[at], two[at], two[zero[at]]}
        if len(square) == 4 and min(square) == at and 0 not in square:
            if sum(one[each] is not None for each in square) < 2:
                return "needed", at
    return None


def extended_leads_home(table, word):
    """Whether the word leads 0 to 0, a new number being made wherever nothing is told."""
    steps = [dict(enumerate(row)) for row in table]
    here = 0
    for sign in word:
        change = int(sign)
        if steps[change].get(here) is None:
            new = len(steps[0])
            for at, other in enumerate((new + 1, new, new + 3, new + 2)):
                steps[0][new + at] = other
            for at, other in enumerate((new + 2, new + 3, new, new + 1)):
                steps[2][new + at] = other
            steps[1][here], steps[1][new] = new, here
        here = steps[change][here]
    return here == 0


class LotsTest(unittest.TestCase):

    def test_of_the_document(self):
        self.assertEqual(folded(()), NOTHING)
        self.assertEqual(folded(("", "00")), NOTHING)
        self.assertEqual(folded(("0", "1")), SMALL)
        self.assertEqual(folded(("0", "1", "2")), ALL)
        for table in (NOTHING, SMALL, ALL):
            self.assertIsNone(need_table(table))

    def test_tables_of_random_lists(self):
        rng = random.Random(1)
        words = reduced_words_up_to(6)
        for _ in range(250):
            wordlist = random_list(rng)
            table = folded(wordlist)
            self.assertIsNone(fault_slowly(table))
            self.assertIsNone(need_table(table))
            for word in wordlist:
                self.assertTrue(holds(table, word))
                self.assertTrue(extended_leads_home(table, rewritten(word)))
            # That each generator is in the lot is shown by a paper, read row by row.
            for word in generators(table):
                self.assertEqual(read_paper(wordlist, spelled(wordlist, word)), word)
                self.assertEqual(paper_word(wordlist, spelled(wordlist, word)), word)
            for word in rng.sample(words, 25):
                held = extended_leads_home(table, word)
                self.assertIs(holds(table, word), held)
                self.assertIs(spelled(wordlist, word) is not None, held)
                self.assertIs(parsed(table, word) is not None, held)

    def test_same_lot_same_table(self):
        rng = random.Random(2)
        for _ in range(150):
            wordlist = random_list(rng)
            table = folded(wordlist)
            other = list(wordlist)
            for _ in range(6):
                if other:
                    at, also = rng.randrange(len(other)), rng.randrange(len(other))
                    if at != also:
                        other[at] = rewritten(other[at] + rng.choice((other[also], other[also][::-1])))
                    else:
                        other[at] = other[at][::-1]
            if max(map(len, other), default=0) <= 100:
                self.assertEqual(folded(tuple(other)), table)
            told = generators(table)
            if len(told) <= 12:
                self.assertEqual(folded(told), table)

    def test_what_is_told_of_numbers(self):
        rng = random.Random(3)
        for _ in range(100):
            table = folded(random_list(rng))
            for number in range(len(table[0])):
                word = way_to(table, number)
                self.assertEqual(word, rewritten(word))
                self.assertEqual(place_of(table, word), number)
                for change in range(3):
                    self.assertEqual(place_of(table, word + str(change)), table[change][number])
            full = None not in table[1]
            self.assertEqual(index_of(table), len(table[0]) if full else None)
        self.assertEqual(index_of(ALL), 1)
        self.assertEqual([way_to(NOTHING, number) for number in range(4)], ["", "0", "2", "02"])
        self.assertIsNone(place_of(NOTHING, "021"))

    def test_index_by_counting_places(self):
        rng = random.Random(4)
        words = reduced_words_up_to(7)
        for _ in range(40):
            wordlist = tuple(random_word(rng, 5) for _ in range(5))
            table = folded(wordlist)
            if index_of(table) is None or index_of(table) > 12:
                continue
            places = []
            for word in words:
                if not any(holds(table, word + other[::-1]) for other in places):
                    places.append(word)
            self.assertEqual(index_of(table), len(places))

    def test_kinds_and_mirrors(self):
        rng = random.Random(5)
        seen = set()
        for _ in range(250):
            wordlist = random_list(rng, 4, 7)
            table = folded(wordlist)
            told = generators(table)
            mirrors = [word for word in told if rewritten(word + word) == ""]
            self.assertNotIn("", told)
            numbers = kinds(table)
            self.assertEqual(numbers[0], len(told) - len(mirrors))
            centers = [word[(len(word) - 1) // 2:][:1 if len(word) % 2 else 2] for word in mirrors]
            self.assertEqual(numbers[1], centers.count("1"))
            self.assertEqual(sum(numbers[2:5]) + 2 * numbers[5], len(mirrors) - numbers[1])
            self.assertEqual(numbers[4], centers.count("02"))
            self.assertEqual(numbers[2] + numbers[5], centers.count("0"))
            self.assertEqual(mirror_in(table), mirrors[0] if mirrors else None)
            held = [word for word in reduced_words_up_to(6) if word and rewritten(word + word) == ""
                    and holds(table, word)]
            if held:
                self.assertIsNotNone(mirror_in(table))
            seen.add(tuple(number > 0 for number in numbers))
        for at in range(6):
            self.assertTrue(any(row[at] for row in seen))
        self.assertEqual(kinds(ALL), (0, 1, 0, 0, 0, 1))
        self.assertEqual(generators(ALL), ("0", "2", "1"))
        self.assertEqual(kinds(NOTHING), (0, 0, 0, 0, 0, 0))
        self.assertEqual(kinds(folded(("02", "101", "01210"))), (0, 0, 1, 1, 1, 0))
        self.assertEqual(kinds(folded(("010", "21012"))), (0, 1, 1, 0, 0, 0))

    def test_parsed(self):
        rng = random.Random(6)
        for _ in range(150):
            wordlist = random_list(rng)
            table = folded(wordlist)
            told = generators(table)
            for _ in range(6):
                word = ""
                for _ in range(rng.randint(0, 5)):
                    if told:
                        one = rng.choice(told)
                        word = rewritten(word + rng.choice((one, one[::-1])))
                row = parsed(table, word)
                made = "".join(rewritten(told[k][::-1]) if is_back else told[k] for k, is_back in row)
                self.assertEqual(rewritten(made), word)
                for k, is_back in row:
                    self.assertFalse(is_back and rewritten(told[k] * 2) == "")
                for (k, is_back), (other, other_back) in zip(row, row[1:]):
                    if rewritten(told[k] * 2) == "":
                        self.assertNotEqual(k, other)
                        if rewritten(told[other] * 2) == "" and rewritten((told[k] + told[other]) * 2) == "":
                            self.assertLess(k, other)
                    else:
                        self.assertFalse(k == other and is_back != other_back)
        self.assertEqual(parsed(ALL, "021"), ((0, False), (1, False), (2, False)))
        self.assertEqual(parsed(ALL, ""), ())
        self.assertIsNone(parsed(NOTHING, "0"))
        table = folded(("0121",))
        self.assertEqual(parsed(table, "01210121"), ((0, False), (0, False)))
        self.assertEqual(parsed(table, "1210"), ((0, True),))

    def test_faults_by_trying(self):
        rng = random.Random(7)
        kinds_met = set()
        for _ in range(9000):
            table = [list(row) for row in folded(random_list(rng, 2, 7))]
            many = len(table[0])
            for _ in range(rng.randint(1, 2)):
                change = rng.randrange(3)
                at = rng.randrange(many)
                other = rng.randrange(many)
                if rng.random() < 0.3:
                    table[change][at] = other
                elif change != 1 and rng.random() < 0.5:
                    row = table[change]
                    row[row[at]], row[row[other]] = row[at], row[other]
                    row[at], row[other] = other, at
                elif change == 1 and rng.random() < 0.6:
                    for each in {at, table[1][at], other, table[1][other]} - {None}:
                        table[1][each] = None
                    if rng.random() < 0.6:
                        table[1][at], table[1][other] = other, at
                else:
                    names = list(range(many))
                    names[at], names[other] = other, at
                    table = [[None if row[names[k]] is None else names[row[names[k]]] for k in range(many)]
                             for row in table]
            value = tuple(map(tuple, table))
            fault = fault_slowly(value)
            kinds_met.add(fault and fault[0])
            if fault is None:
                self.assertIsNone(need_table(value))
                continue
            with self.assertRaises(BadTable) as caught:
                need_table(value)
            self.assertEqual((caught.exception.word, caught.exception.place), fault)
        self.assertEqual(kinds_met, {None, "back", "square", "order", "needed"})

    def test_each_rule_with_a_later_one(self):
        cases = (
            (((0, 0), (0, 1), (1, 1)), ("back", 0)),
            (((1, 0, 2), (None,) * 3, (0, 2, 1)), ("square", 0)),
            (((0, 1, 2), (2, None, 0), (0, 1, 2)), ("order", 1)),
            (((0, 1), (None, None), (0, 1)), ("order", 1)),
            (((0, 2, 1, 4, 3), (1, 0, None, None, None), (0, 3, 4, 1, 2)), ("needed", 1)),
        )
        for table, fault in cases:
            with self.assertRaises(BadTable) as caught:
                need_table(table)
            self.assertEqual((caught.exception.word, caught.exception.place), fault)

    def test_forms(self):
        wrong = OTHERS + [
            (), ((), (), ()), [NOTHING], list(NOTHING), NOTHING[:2], NOTHING + NOTHING[:1], (list(ALL[0]), ALL[1], ALL[2]),
            ((None,), (0,), (0,)), ((0,), (0,), (None,)), ((0,), (False,), (0,)), ((1,), (0,), (0,)), ((0,), (-1,), (0,)),
            ((0,), ("0",), (0,)), ((0,), (0, 1), (0,)), ((0,), ((0,),), (0,)), "0", 3,
            ((0,), (0, 0), (0,)), ((0,), (0,), (0, 0)), ((0, 1), (0, 1), (0,)), ((0, 1), (0,), (0, 1)), (ALL[0], list(ALL[1]), ALL[2]),
            (ALL[0], ALL[1], list(ALL[2])), ((0,), (), (0,)), ((0,), (0,), ())]
        for value in wrong:
            with self.assertRaises(BadTable) as caught:
                need_table(value)
            self.assertEqual((caught.exception.word, caught.exception.place), ("form", None))

    def test_great_tables(self):
        def free(many):
            # Two squares after another, each met from number 3 of the one ahead; the last leads back to 0.
            zero = tuple(at ^ 1 for at in range(4 * many))
            two = tuple(at ^ 2 for at in range(4 * many))
            return zero, two
        zero, two = free(625)
        one = [None] * 2500
        one[0], one[4] = 4, 0
        one[3], one[8] = 8, 3
        left, right = 7, 11
        for at in range(12, 2500, 4):
            one[left], one[at] = at, left
            left, right = right, at + 3
        one[left], one[right] = right, left
        table = (zero, tuple(one), two)
        self.assertIsNone(need_table(table))
        self.assertTrue(holds(table, "021" * 625))
        self.assertFalse(holds(table, "021" * 624))
        self.assertEqual(len(generators(table)), 1)
        self.assertIn(generators(table)[0], ("021" * 625, "102" * 625))
        # Numbers that are too many by one: a long way to a place that "0" and "2" lead to itself.
        way = "1" + "01" * 624
        table = lot_table_of((way[::-1] + "0" + way, way[::-1] + "2" + way))
        self.assertEqual(len(table[0]), 2501)
        with self.assertRaises(BadTable) as caught:
            need_table(table)
        self.assertEqual((caught.exception.word, caught.exception.place), ("form", None))
        for row in (tuple(range(2504)),):
            with self.assertRaises(BadTable) as caught:
                need_table((tuple(at ^ 1 for at in row), (None,) * 2504, tuple(at ^ 2 for at in row)))
            self.assertEqual(caught.exception.word, "form")

    def test_wrong_values(self):
        for value in NO_WORDS + ["0x"]:
            for call in (holds, place_of, parsed):
                with self.assertRaises(BadWord):
                    call(NOTHING, value)
        for value in NO_INTEGERS + [-1, 4]:
            with self.assertRaises(BadNumber) as caught:
                way_to(NOTHING, value)
            self.assertIs(caught.exception.value, value)
        for value in OTHERS + [(NOTHING[0], NOTHING[2], None)]:
            for call in (need_table, lambda t: holds(t, None), lambda t: place_of(t, None), lambda t: way_to(t, None),
                         index_of, generators, kinds, lambda t: parsed(t, None), mirror_in):
                with self.assertRaises(BadTable):
                    call(value)


class FoldingTest(unittest.TestCase):

    def test_great_lists(self):
        rng = random.Random(8)
        for _ in range(4):
            wordlist = tuple("".join(rng.choice(("0", "2", "02")) + "1" for _ in range(100))[:100] for _ in range(12))
            table = folded(wordlist)
            self.assertIsNone(need_table(table))
            word = wordlist[0] + wordlist[5][::-1] + wordlist[11] + wordlist[2]
            self.assertTrue(holds(table, word))
            self.assertEqual(paper_word(wordlist, spelled(wordlist, word)), rewritten(word))
        apart = tuple(rewritten(a + "1" + b + "10102" * 18) for a, b in itertools.product(("0", "2", "02"), repeat=2))
        self.assertIsNone(need_table(folded(apart)))

    def test_papers_of_long_words(self):
        rng = random.Random(9)
        for _ in range(60):
            wordlist = tuple(random_word(rng, 40) for _ in range(4))
            word = "".join(rng.choice(wordlist)[::rng.choice((1, -1))] for _ in range(8))
            paper = spelled(wordlist, word)
            self.assertEqual(read_paper(wordlist, paper), rewritten(word))
            self.assertEqual(paper_word(wordlist, paper), rewritten(word))
            self.assertLessEqual(len(paper), 20000)
            for at, row in enumerate(paper):
                self.assertTrue(all(0 <= each < at for each in row[1:]) or row[0] == "word")

    def test_papers_where_much_falls_together(self):
        for wordlist in (("0121", "1201", "10212"), ("01" * 50, "01" * 33), ("0102" * 5, "021" * 10, "01" * 21),
                         ("1" + "01" * 20, "012" * 7, "2102" * 9)):
            table = folded(wordlist)
            for word in generators(table):
                self.assertEqual(paper_word(wordlist, spelled(wordlist, word)), word)
        self.assertEqual(folded(("01" * 50, "01" * 33)), folded(("01",)))

    def test_paper_word(self):
        wordlist = ("20", "0121")
        self.assertEqual(paper_word(wordlist, ()), "")
        self.assertEqual(paper_word(wordlist, (("word", 0),)), "02")
        self.assertEqual(paper_word(wordlist, (("word", 1), ("back", 0), ("then", 0, 1))), "")
        self.assertEqual(paper_word(wordlist, (("word", 1), ("word", 0), ("then", 1, 0), ("back", 2))), "1212")
        self.assertEqual(spelled((), ""), ())
        self.assertIsNone(spelled((), "0"))
        self.assertEqual(spelled(("012",), "0110"), ())
        grown = [("word", 0)] + [("then", at, at) for at in range(12)]
        self.assertEqual(paper_word(("01",), tuple(grown[:12])), "01" * 2 ** 11)
        with self.assertRaises(BadPaper) as caught:
            paper_word(("01",), tuple(grown))
        self.assertEqual(caught.exception.word, "great")
        self.assertEqual(paper_word(("01",), (("word", 0),) * 50000), "01")
        hundred = ("01" * 50, "0")
        fifty = [("word", 0)] + [("then", 0, at) for at in range(49)]
        self.assertEqual(paper_word(hundred, tuple(fifty)), "01" * 2500)
        for row in (("then", 49, 50), ("then", 49, 0)):
            with self.assertRaises(BadPaper) as caught:
                paper_word(hundred, tuple(fifty + [("word", 1), row]))
            self.assertEqual(caught.exception.word, "great")

    def test_wrong_papers(self):
        cases = ((None, "form"), ([], "form"), ("", "form"), ({}, "form"), (True, "form"), ((("word", 0),) * 50001, "form"),
                 ((None,), "row"), ((["word", 0],), "row"), ((("word",),), "row"), ((("word", 0, 0),), "row"),
                 ((("word", True),), "row"), ((("word", "0"),), "row"), ((("words", 0),), "row"), (((0, 0),), "row"),
                 ((("then", 0),), "row"), ((("back", 0, 0),), "row"), ((("then", 0, None),), "row"), (((),), "row"),
                 ((("word", 1),), "word"), ((("word", -1),), "word"), ((("word", 10 ** 40),), "word"),
                 ((("back", 0),), "ahead"), ((("word", 0), ("then", 0, 1)), "ahead"), ((("word", 0), ("back", -1)), "ahead"),
                 ((("word", 0), ("then", -1, 0), None), "ahead"), ((("word", 5), None), "word"), ((None, ("word", 5)), "row"),
                 ((("word", (0,)),), "row"), ((([], 0),), "row"))
        for paper, word in cases:
            with self.assertRaises(BadPaper) as caught:
                paper_word(("01",), paper)
            self.assertEqual(caught.exception.word, word)

    def test_wrong_lists(self):
        cases = ((None, None), ([], None), ("0", None), (True, None), ({}, None), (("0",) * 13, None), ((None,) * 13, None),
                 (("0", None), 1), (("0", "3", None), 1), ((("0",),), 0), ((b"0",), 0), (("0" * 101,), 0),
                 (("", "0" * 100, "0" * 101, "x"), 2), ((0,), 0))
        for wordlist, place in cases:
            for call in (folded, lambda w: spelled(w, None), lambda w: paper_word(w, None)):
                with self.assertRaises(BadLot) as caught:
                    call(wordlist)
                self.assertEqual(caught.exception.place, place)
        for word in NO_WORDS:
            with self.assertRaises(BadWord) as caught:
                spelled(("0",), word)
            self.assertIsNone(caught.exception.place)
        self.assertEqual(folded(("0" * 100, "")), NOTHING)


if __name__ == "__main__":
    unittest.main()
