import random
import unittest

from common import NO_INTEGERS, NO_WORDS, OTHERS, led, random_net, random_word, rewritten
from deed_common import (
    APART, NAMED, done_slowly, fault_slowly, moved_slowly, one_cell, random_deed, walked_slowly)
from netsredrawn.deeds import is_plain, need_deed, need_plain, rule_broken
from netsredrawn.errors import BadDeed, BadNumber, BadWord, NotPlain, TooGreat
from netsredrawn.folding import folded
from netsredrawn.lots import generators, holds
from netsredrawn.nets import net_fault
from netsredrawn.walks import loops, tree_walks, walk_order, walked

HALF = NAMED["half"]


def changed(deed, change, cell, step):
    rows = [list(row) for row in deed]
    rows[change][cell] = step
    return tuple(map(tuple, rows))


class DeedsTest(unittest.TestCase):

    def test_deeds_are_deeds(self):
        rng = random.Random(1)
        for deed in list(NAMED.values()) + [APART] + [random_deed(rng) for _ in range(150)]:
            self.assertIsNone(rule_broken(deed))
            self.assertIs(need_deed(deed), deed)
            plain = all(len(word) <= 1 for row in deed for _, word in row)
            self.assertIs(is_plain(deed), plain)
            if plain:
                self.assertIs(need_plain(deed), deed)
            else:
                with self.assertRaises(NotPlain) as caught:
                    need_plain(deed)
                self.assertEqual(caught.exception.cell, min(
                    cell for row in deed for cell, step in enumerate(row) if len(step[1]) > 1))

    def test_deeds_make_nets_and_others_do_not(self):
        rng = random.Random(2)
        nets = [random_net(rng, 12) for _ in range(3)]
        for deed in [APART] + [random_deed(rng) for _ in range(40)]:
            for net in nets:
                self.assertIsNone(net_fault(done_slowly(deed, net)) if len(deed[0]) * 12 <= 960 else None)

    def test_broken_rules_by_trying(self):
        rng = random.Random(3)
        kinds = {}
        for _ in range(6000):
            deed = [list(row) for row in random_deed(rng, 6)]
            many = len(deed[0])
            for _ in range(rng.randint(1, 2)):
                change, cell, other = rng.randrange(3), rng.randrange(many), rng.randrange(many)
                word = rng.choice(("", "0", "1", "2", "02", "101", "01", "12", "0201"))
                if rng.random() < 0.4:
                    deed[change][cell] = (other, word)
                elif cell == other:
                    deed[change][cell] = (cell, rng.choice(("", "0", "1", "02", "121")))
                else:
                    for each in (cell, other):
                        there = deed[change][each][0]
                        if there not in (cell, other):
                            deed[change][there] = (there, "1")
                    deed[change][cell], deed[change][other] = (other, rewritten(word)), (cell, rewritten(word[::-1]))
            value = tuple(map(tuple, deed))
            fault = fault_slowly(value)
            self.assertEqual(rule_broken(value), fault)
            kinds[fault and fault[0]] = kinds.get(fault and fault[0], 0) + 1
            if fault is not None:
                for call in (need_deed, is_plain, need_plain, lambda d: walked(d, None, None)):
                    with self.assertRaises(BadDeed) as caught:
                        call(value)
                    self.assertEqual((caught.exception.word, caught.exception.cell), fault)
        self.assertEqual(set(kinds), {None, "form", "back", "still", "square", "apart"})

    def test_each_rule_alone(self):
        cases = (
            (one_cell("00", "1", "2"), ("form", None)),
            (one_cell("01", "1", "2"), ("back", 0)),
            (changed(HALF, 0, 1, (0, "1")), ("back", 0)),
            (changed(HALF, 1, 1, (1, "")), ("still", 1)),
            (one_cell("", "1", "2"), ("still", 0)),
            (one_cell("0", "0", "1"), ("square", 0)),
            (changed(HALF, 2, 1, (1, "0")), ("square", 0)),
            (one_cell("0", "1", "0"), ("apart", 0)),
            ((((1, ""), (0, "")), ((0, "1"), (1, "1")), ((1, ""), (0, ""))), ("apart", 0)),
            (one_cell("0", "1", "2"), None),
        )
        for deed, fault in cases:
            self.assertEqual(rule_broken(deed), fault)
            self.assertEqual(fault_slowly(deed), fault)

    def test_each_rule_with_a_later_one(self):
        cases = (
            (one_cell("", "01", "22"), ("form", None)),
            (one_cell("", "01", "0"), ("back", 0)),
            (one_cell("0", "", "1"), ("still", 0)),
            # The first rule that fails at any cell is told ahead of one that fails at a lesser cell.
            ((((0, ""), (1, "01")), ((0, "1"), (1, "1")), ((0, "2"), (1, "2"))), ("back", 1)),
            ((((0, "0"), (1, "")), ((0, "1"), (1, "1")), ((0, "1"), (1, "2"))), ("still", 1)),
            ((((0, "0"), (1, "0")), ((0, "1"), (1, "1")), ((0, "0"), (1, "1"))), ("square", 1)),
        )
        for deed, fault in cases:
            self.assertEqual(rule_broken(deed), fault)
            with self.assertRaises(BadDeed) as caught:
                need_deed(deed)
            self.assertEqual((caught.exception.word, caught.exception.cell), fault)

    def test_forms(self):
        same = NAMED["same"]
        wrong = OTHERS + [
            (), same[:2], same + same[:1], list(same), (list(same[0]), same[1], same[2]), ((), (), ()),
            (same[0] + same[0], same[1], same[2]), one_cell("0", "1", None), one_cell("0", "1", 2), one_cell("0", "1", ("2",)),
            one_cell("0", "1", "3"), one_cell("0", "1", "20"), one_cell("0", "1", "2 "), one_cell("11", "1", "2"),
            (((0, "0", ""),), same[1], same[2]), (([0, "0"],), same[1], same[2]), (((True, "0"),), same[1], same[2]),
            (((False, "0"),), same[1], same[2]), (((1, "0"),), same[1], same[2]), (((-1, "0"),), same[1], same[2]),
            ((("0", "0"),), same[1], same[2]), (((None, "0"),), same[1], same[2]), ((None,), same[1], same[2]), "012", 3,
            (((0,),), same[1], same[2]), ("0", "1", "2"), (same[0], list(same[1]), same[2]), (same[0], same[1], list(same[2])),
            (same[0], same[1] * 2, same[2]), (same[0], same[1], ()), (HALF[0], HALF[1], HALF[2][:1]), (HALF[0], same[1], HALF[2])]
        for value in wrong:
            self.assertEqual(rule_broken(value), ("form", None))
            for call in (need_deed, is_plain, need_plain, lambda d: walk_order(d, None), lambda d: tree_walks(d, None),
                         lambda d: loops(d, None), lambda d: walked(d, None, None)):
                with self.assertRaises(BadDeed) as caught:
                    call(value)
                self.assertEqual((caught.exception.word, caught.exception.cell), ("form", None))

    def test_cells_and_characters(self):
        def many(cells, word="0"):
            return (tuple((cell, word) for cell in range(cells)), tuple((cell, "1") for cell in range(cells)),
                    tuple((cell, "2") for cell in range(cells)))
        self.assertIsNone(rule_broken(many(48)))
        self.assertEqual(rule_broken(many(49)), ("form", None))

        def long(mover):
            return moved_slowly(HALF, [mover, ""])
        word = "21" * 30
        deed = long(word)
        self.assertGreater(max(len(each) for row in deed for _, each in row), 60)
        self.assertEqual(rule_broken(deed), ("form", None))
        sixty = "2" + "10" * 29 + "1"
        self.assertEqual(len(sixty), 60)
        pair = (((1, sixty), (0, rewritten(sixty[::-1]))), ((0, "1"), (1, "1")), ((0, "2"), (1, "2")))
        self.assertEqual(rule_broken(pair), fault_slowly(pair))
        self.assertNotEqual(rule_broken(pair), ("form", None))
        more = "2" + "10" * 30
        pair = (((1, more), (0, rewritten(more[::-1]))), ((0, "1"), (1, "1")), ((0, "2"), (1, "2")))
        self.assertEqual(rule_broken(pair), ("form", None))
        mover = "1" + "01" * 14
        self.assertIsNone(rule_broken(one_cell(*(rewritten(mover[::-1] + each + mover) for each in "012"))))

    def test_walked(self):
        rng = random.Random(4)
        for _ in range(200):
            deed = random_deed(rng)
            cell, walk = rng.randrange(len(deed[0])), random_word(rng, 15)
            told = walked(deed, cell, walk)
            self.assertEqual(told, walked_slowly(deed, cell, walk))
            # Step by step, and on a net: a word leads in what is done as the walk tells.
            net = random_net(rng, 8)
            made = done_slowly(deed, net)
            flag, many = rng.randrange(8), len(deed[0])
            self.assertEqual(led(made, flag * many + cell, walk), led(net, flag, told[1]) * many + told[0])
        self.assertEqual(walked(HALF, 0, ""), (0, ""))
        self.assertEqual(walked(HALF, 0, "010"), (0, "0"))

    def test_long_walks(self):
        deed = NAMED["same"]
        self.assertEqual(walked(deed, 0, "01" * 10000), (0, "01" * 10000))
        double = moved_slowly(deed, ["10" * 14])
        self.assertIsNone(rule_broken(double))
        self.assertEqual(walked(double, 0, "01" * 9900)[1], rewritten("01" * 14 + "01" * 9900 + "10" * 14))
        cut = NAMED["twist"]
        self.assertEqual(len(walked(cut, 0, "01" * 6666)[1]), 19998)
        with self.assertRaises(TooGreat) as caught:
            walked(cut, 0, "01" * 6667)
        self.assertEqual(caught.exception.most, 20000)

    def test_orders_and_tree_walks(self):
        rng = random.Random(5)
        for _ in range(100):
            deed = random_deed(rng)
            for cell in range(len(deed[0])):
                order, walks = [cell], {cell: ""}
                for here in order:
                    for change in range(3):
                        there = deed[change][here][0]
                        if there not in walks:
                            walks[there] = walks[here] + str(change)
                            order.append(there)
                self.assertEqual(walk_order(deed, cell), tuple(order))
                self.assertEqual(tree_walks(deed, cell), tuple(walks[each] for each in order))
        self.assertEqual(walk_order(APART, 1), (1,))
        self.assertEqual(tree_walks(APART, 1), ("",))
        self.assertEqual(walk_order(HALF, 1), (1, 0))
        self.assertEqual(tree_walks(NAMED["cut"], 0), ("", "1", "12"))

    def test_loops(self):
        rng = random.Random(6)
        for _ in range(80):
            deed = random_deed(rng, 12)
            cell = rng.randrange(len(deed[0]))
            told = loops(deed, cell)
            for walk, gathered in told:
                self.assertNotEqual(walk, "")
                self.assertEqual(walk, rewritten(walk))
                self.assertEqual(walked_slowly(deed, cell, walk), (cell, gathered))
            # All closed walks come of these: their table, made of few words at a time, holds them.
            walks = tuple(walk for walk, _ in told)
            table = None
            while walks:
                table = folded(walks[:12])
                walks = generators(table) + walks[12:] if len(walks) > 12 else ()
            for _ in range(60):
                walk = random_word(rng, 14)
                closed = walked_slowly(deed, cell, walk)[0] == cell
                self.assertIs(holds(table, walk), closed)
        self.assertEqual(dict(loops(APART, 1)), {"0": "101", "1": "1", "2": "121"})

    def test_wrong_values(self):
        for cell in NO_INTEGERS + [-1, 2]:
            for call in (lambda c: walked(HALF, c, None), lambda c: walk_order(HALF, c), lambda c: tree_walks(HALF, c),
                         lambda c: loops(HALF, c)):
                with self.assertRaises(BadNumber) as caught:
                    call(cell)
                self.assertIs(caught.exception.value, cell)
        for walk in NO_WORDS:
            with self.assertRaises(BadWord) as caught:
                walked(HALF, 0, walk)
            self.assertIsNone(caught.exception.place)
        with self.assertRaises(BadWord) as caught:
            walked(HALF, 0, "01 2")
        self.assertEqual(caught.exception.place, 2)


if __name__ == "__main__":
    unittest.main()
