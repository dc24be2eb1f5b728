"""Tests of functions of unlike parts together."""

import random
import unittest

from common import random_joined_net, random_net, random_word
from deed_common import NAMED, done_slowly
from netsredrawn.coming import flags_met
from netsredrawn.counting import count_form, rounds_made
from netsredrawn.covers import cover, least_cover
from netsredrawn.doing import done
from netsredrawn.dyes import dyeing, signs_of
from netsredrawn.faults import FAULTS, faults_made, faults_of, first_fault, is_clean
from netsredrawn.forms import total
from netsredrawn.growth import cycle_after, rounds_after
from netsredrawn.least import least_deed
from netsredrawn.live import Board
from netsredrawn.logs import log_text, read_log
from netsredrawn.named import grid, ring, solid, twisted_grid
from netsredrawn.origins import origins
from netsredrawn.parsing import parse_deed, parse_net, parse_script
from netsredrawn.renamings import image_flag, renaming
from netsredrawn.rounds import degrees, euler_number
from netsredrawn.searching import shortest_script
from netsredrawn.sequence import after, many_times
from netsredrawn.shapes import are_alike, least_net
from netsredrawn.sheets import judged
from netsredrawn.signs import made_signs, sign_table
from netsredrawn.sources import comes_of, deed_sources, sources
from netsredrawn.surfaces import is_two_sided, surface, surface_word
from netsredrawn.texts import deed_text, net_text, script_text
from netsredrawn.valued import script_cells, script_done, script_dye, script_least

NAMES = sorted(NAMED)
BOOK = tuple((name, NAMED[name]) for name in NAMES)
# Eight of the deeds, for a book has no more.
EIGHT = [name for name in NAMES if name not in ("same", "spin")]
DEEDS = tuple(NAMED[name] for name in EIGHT)


class WholeTest(unittest.TestCase):

    def board(self, net, names):
        board = Board(net)
        for name in names:
            board.enter(NAMED[name])
        return board

    def test_boards_and_growth(self):
        rng = random.Random(1)
        for name in NAMES:
            net = random_net(rng, 12)
            for times in (0, 1, 2, 5):
                board = self.board(net, [name] * times)
                counts = board.counts()
                modulus = 10 ** 30
                self.assertEqual(counts, tuple(rounds_after(NAMED[name], net, pair, times, modulus) for pair in ("12", "02", "01")))
                for _ in range(3):
                    flag, word = rng.randrange(12), random_word(rng, 4)
                    self.assertEqual(board.cycle_length((flag,) + (0,) * times, word),
                                     cycle_after(NAMED[name], net, flag, word, times, modulus))

    def test_boards_and_scripts(self):
        rng = random.Random(2)
        for _ in range(25):
            names = [rng.choice(EIGHT) for _ in range(rng.randint(0, 4))]
            script, net = ("row", tuple(names)), random_joined_net(rng, 8)
            board = self.board(net, names)
            self.assertEqual(board.size, len(net[0]) * script_cells(script, BOOK))
            for sign in range(8):
                told = script_dye(script, BOOK, sign)
                self.assertIs(board.has_dyeing(sign), told is not None and dyeing(net, told) is not None)
            if board.size <= 960:
                made = script_done(script, BOOK, net)
                self.assertEqual(board.built(), made)
                self.assertEqual(board.counts(), tuple(len(degrees(made, pair)) for pair in ("12", "02", "01")))
                self.assertEqual(judged("net n\n- " + net_text(net).replace("\n", "\n- ") + "\nnet m\n- "
                                        + net_text(made).replace("\n", "\n- ") + "".join(
                                            "\ndeed %s\n- %s" % (name, deed_text(NAMED[name]).replace("\n", "\n- "))
                                            for name in NAMES)
                                        + "\nscript s\n- " + script_text(script) + "\nmakes s n m\ncounts s n %d %d %d"
                                        % board.counts()), (True, True))
            if script_cells(script, BOOK) <= 48:
                deed = board.as_deed()
                self.assertEqual(least_deed(deed), script_least(script, BOOK))
                self.assertEqual(sign_table(deed), tuple(script_dye(script, BOOK, sign) for sign in range(8)))
                self.assertIsNotNone(shortest_script(DEEDS, deed))
                course = shortest_script(DEEDS, deed)
                self.assertLessEqual(len(course), len(names))

    def test_forms_and_surfaces(self):
        for net in (solid("octa"), grid(2, 3), twisted_grid(3, 2)):
            for name in NAMES:
                made = done(NAMED[name], net)
                counts = []
                for pair in ("12", "02", "01"):
                    counts.append(rounds_made(NAMED[name], net, pair))
                    self.assertEqual(total(count_form(NAMED[name], pair), net), 2 * counts[-1])
                self.assertEqual(euler_number(made), counts[0] - counts[1] + counts[2])
                sides, number = surface(made)
                self.assertEqual(2 - sides * number, euler_number(made))
                self.assertIs(is_two_sided(made), sign_table(NAMED[name])[7] in signs_of(net))
                self.assertIn(" ", surface_word((sides, number)) + " ")
                self.assertEqual(made_signs(sign_table(NAMED[name]), signs_of(net)), signs_of(made))

    def test_covers_and_deeds(self):
        for name in NAMES:
            table = sign_table(NAMED[name])
            for net in (ring(1), twisted_grid(1, 2)):
                for sign in range(8):
                    if table[sign] is not None:
                        self.assertTrue(are_alike(done(NAMED[name], cover(net, (table[sign],))),
                                                  cover(done(NAMED[name], net), (sign,))))
                self.assertEqual(least_net(least_cover(net, (0,))), least_net(net))

    def test_faults_in_done_nets(self):
        rng = random.Random(3)
        for name in NAMES:
            net = random_net(rng, 16)
            made = done(NAMED[name], net)
            first = []
            for fault, walk, pair in FAULTS:
                told = faults_of(made, fault)
                self.assertEqual(faults_made(NAMED[name], net, fault), told)
                self.assertEqual(faults_of(net, fault), flags_met(NAMED["same"], net, 0, walk, pair))
                first.extend((flag, len(first)) for flag in told[:1])
                if is_clean(NAMED[name], fault):
                    self.assertEqual(told, ())
            self.assertEqual(first_fault(NAMED[name], net) is None, first == [])
            if first:
                self.assertEqual(first_fault(NAMED[name], net)[0], min(first)[0])

    def test_back_and_forth(self):
        rng = random.Random(4)
        for name in NAMES:
            net = random_joined_net(rng, 12)
            made = done(NAMED[name], net)
            self.assertIs(comes_of(NAMED[name], made), True)
            self.assertIn(least_net(net), [source for source, _ in sources(NAMED[name], made)])
            twice = many_times(NAMED[name], 2)
            self.assertIn(least_deed(NAMED[name]), deed_sources(NAMED[name], twice))
            self.assertEqual(dict(origins((NAMED[name],), twice))[least_deed(twice)], ())

    def test_texts_of_all_that_is_told(self):
        rng = random.Random(5)
        for name in NAMES:
            net = done_slowly(NAMED[name], random_net(rng, 8))
            self.assertEqual(parse_net(net_text(net)), net)
            self.assertEqual(parse_deed(deed_text(NAMED[name])), NAMED[name])
            self.assertEqual(parse_script(script_text(("times", name, 10 ** 30 - 1))), ("times", name, 10 ** 30 - 1))
            self.assertEqual(parse_deed(deed_text(least_deed(NAMED[name]))), least_deed(NAMED[name]))

    def test_boards_and_renamings(self):
        flip, middle = NAMED["flip"], NAMED["middle"]
        both = after(flip, middle)
        pair = renaming(both, middle)
        board = self.board(solid("cube"), [])
        board.enter(both)
        addresses = [board.address_of(number) for number in range(board.size)]
        for number, address in enumerate(addresses):
            there = board.carried(0, middle, pair, address)
            self.assertEqual(image_flag(both, middle, pair, solid("cube"), number), there[0] * 2 + there[1])
        board.pin("here", addresses[7])
        board.swap(0, middle, pair)
        self.assertEqual(read_log(log_text(board)), board)

    def test_nothing_is_changed(self):
        net, deed, book = ring(3), NAMED["cut"], BOOK
        before = (repr(net), repr(deed), repr(book))
        board = Board(net)
        board.enter(deed)
        record, pins = board.record, board.pins
        board.pin("a", (0, 0))
        board.late(0, NAMED["half"])
        self.assertEqual((record, pins), ((deed,), ()))
        origins((deed,), deed)
        sources(deed, done(deed, net))
        script_least(("row", ("cut", "half")), book)
        self.assertEqual((repr(net), repr(deed), repr(book)), before)


if __name__ == "__main__":
    unittest.main()
