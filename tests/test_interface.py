"""The names and parameters of what has landed, as the document lists them."""

import importlib
import inspect
import unittest

INTERFACE = {
    "words": """reduced(word) ; back(word) ; then(word, other_word) ; is_reduced(word)
        is_ahead(word, other_word) ; is_mirror(word) ; mirror_of(word) ; times_home(word)""",
    "classes": """least_conjugate(word) ; class_of(word) ; conjugator(word, other_word) ; root(word)
        commuting(word)""",
    "powers": """need_row(row) ; row_length(row) ; row_character(row, place) ; row_word(row)
        are_same_rows(row, other_row) ; done_times(word, times)""",
    "ranking": """number_of(word) ; word_numbered(number) ; words_of(length) ; classes_of(length)
        next_words(word, many)""",
    "turns": """turned(word, turn) ; turns_of(word) ; turn_then(turn, other_turn) ; turn_back(turn)
        turns_kept(word) ; least_turned(word) ; turn_of(wordlist)""",
    "nets": """net_fault(value) ; is_net(value) ; need_net(net) ; need_flag(net, flag) ; lead(net, flag, word)
        path(net, flag, word) ; action(net, word) ; way(net, flag, other_flag) ; parts(net) ; is_joined(net)
        need_joined(net) ; part_net(net, flag) ; beside(net, other_net)""",
    "rounds": """rounds(net, wordlist) ; round_of(net, flag, wordlist) ; degrees(net, pair) ; euler_number(net)
        cycle(net, flag, word) ; cycle_length(net, flag, word) ; cycle_number(net, word)
        lead_often(net, flag, word, number) ; word_order(net, word)""",
    "shapes": """reading_from(net, flag) ; least_net(net) ; likeness(net, other_net) ; are_alike(net, other_net)
        is_likeness(net, other_net, value) ; need_likeness(net, other_net, likeness_told) ; symmetries(net)
        symmetry_number(net)""",
    "quotients": """fold_map(net, other_net) ; is_fold_map(net, other_net, value) ; fold_classes(net)
        images_of(net) ; image_net(net, marks) ; folded_by(net, likenesses)
        over_both(net, flag, other_net, other_flag)""",
    "listing": """all_nets(many) ; rooted_number(number)""",
    "named": """is_gluing(value) ; glued(gluing) ; gluing_of(net) ; ring(number) ; bundle(number)
        grid(wide, high) ; twisted_grid(wide, high) ; solid(name)""",
    "folding": """folded(wordlist) ; spelled(wordlist, word) ; paper_word(wordlist, paper)""",
    "lots": """need_table(table) ; holds(table, word) ; place_of(table, word) ; way_to(table, number)
        index_of(table) ; generators(table) ; kinds(table) ; parsed(table, word) ; mirror_in(table)""",
    "meets": """meet(table, other_table) ; moved_lot(table, word) ; outside(table, other_table)
        turning_word(table, other_table)""",
    "closing": """completed(table) ; closing_net(wordlist) ; opening_net(wordlist, word)
        parting_net(word, other_word)""",
    "deeds": """need_deed(deed) ; rule_broken(deed) ; is_plain(deed) ; need_plain(deed)""",
    "walks": """walked(deed, cell, walk) ; walk_order(deed, cell) ; tree_walks(deed, cell) ; loops(deed, cell)""",
    "doing": """done(deed, net) ; flag_done(deed, net, flag, change)""",
    "homes": """is_whole_deed(deed) ; need_whole(deed) ; homes(deed) ; own_lot(deed, cell)""",
    "moving": """renumbered(deed, order) ; moved(deed, wordlist)""",
    "broken": """breaking_net(table)""",
    "makers": """deed_named(name)""",
    "plainlist": """plain_deeds(many)""",
    "sequence": """after(deed, other_deed) ; script_of(deedlist) ; many_times(deed, times)""",
    "least": """weight(deed) ; least_deed(deed)""",
    "renamings": """renaming(deed, other_deed) ; all_renamings(deed, other_deed) ; are_alike_deeds(deed, other_deed)
        need_renaming(deed, other_deed, value) ; image_flag(deed, other_deed, value, net, flag)""",
    "parting": """first_parting(deed, other_deed, most)""",
    "turnings": """taken_up(deed) ; blind_to(deed) ; own_renamings(deed) ; cell_lots(deed)""",
    "strips": """strips(deed, pair) ; round_degree(deed, net, pair, flag)""",
    "forms": """class_word(word) ; need_form(form) ; total(form, net) ; form_sum(form, other_form)
        form_times(form, number) ; word_total(word) ; pair_form(pair) ; parting_total(form, other_form)""",
    "counting": """count_form(deed, pair) ; pulled(deed, form) ; rounds_made(deed, net, pair)
        degree_counts(deed, net, pair)""",
    "sizes": """cycle_net(word, many) ; degrees_told(deed, pair) ; degree_comes(deed, pair, degree)
        common_divisor(deed, pair) ; degree_net(deed, pair, degree)""",
    "euler": """euler_form(deed) ; keeps_euler(deed) ; number_table(deed) ; numbers_then(table, other_table)
        numbers_after(table, counts, times, modulus)""",
    "growth": """closed_lot(deed, form) ; lot_table(deed, lot) ; total_after(deed, net, form, times, modulus)
        rounds_after(deed, net, pair, times, modulus) ; word_trail(deed, word)
        cycle_after(deed, net, flag, word, times, modulus)""",
    "dyes": """is_sign(value) ; need_sign(sign) ; count_of(word, sign) ; together(sign, other_sign) ; dyeing(net, sign)
        signs_of(net) ; dyeing_paper(net, sign) ; is_dyeing_paper(net, sign, paper) ; common_signs(wordlist)""",
    "surfaces": """is_two_sided(net) ; surface(net) ; surfaces(net) ; surface_word(pair)""",
    "signs": """sign_table(deed) ; sides_rule(deed) ; sign_paper(deed, sign) ; is_sign_paper(deed, sign, paper)
        is_table_of_signs(value) ; need_table_of_signs(table) ; signs_after(table, other_table)
        made_signs(table, net_signs)""",
    "covers": """cover(net, wished) ; independent_signs(net, wished) ; least_cover(net, wished)
        exchange(deed, net, sign)""",
    "meetings": """is_place_pair(value) ; closings_of(deed, cell, pair) ; links(deed, cell, pair)
        crossing(deed, cell, walk, pair) ; meeting(deed, cell, walk, pair)""",
    "coming": """flags_met(deed, net, cell, walk, pair) ; net_where(deed, cell, walk, pair)
        net_without(deed, cell, walk, pair) ; first_net(deed, cell, walk, pair, many)""",
    "faults": """faults_of(net, name) ; fault_table(deed) ; is_clean(deed, name) ; faults_made(deed, net, name)
        first_fault(deed, net)""",
    "witnesses": """meeting_paper(deed, cell, walk, pair) ; is_meeting_paper(deed, cell, walk, pair, paper)
        cleaning(deed, name)""",
    "sources": """sources(deed, net) ; comes_of(deed, net) ; refusal_to_come(deed, net)
        need_refusal_to_come(deed, net, paper) ; deed_sources(deed, other_deed)""",
    "books": """need_book(book) ; script_deed(book, script)""",
    "origins": """origins(book, deed) ; net_origins(book, net) ; net_roots(book, net)""",
    "searching": """shortest_script(book, deed) ; scripts_of_cells(book, many) ; left_out(book) ; least_book(book)""",
    "lettering": """is_name(value)""",
    "texts": """word_item(word) ; net_text(net) ; deed_text(deed) ; script_text(script)""",
    "scripts": """need_script(script) ; script_names(script) ; need_named_book(book)""",
    "parsing": """parse_net(text) ; parse_deed(text) ; parse_script(text)""",
    "valued": """script_cells(script, book) ; script_done(script, book, net) ; script_least(script, book)
        are_alike_scripts(script, other_script, book) ; script_dye(script, book, sign)""",
    "sheets": """sheet_entries(text) ; judged(text)""",
    "live": """under(manager, act)""",
    "logs": """log_text(board) ; read_log(text)""",
    "refusing": """refusals(deed, other_deed) ; need_refusal(deed, other_deed, value)""",
}


BOARD = """enter(deed) ; late(number, deed) ; strike(number) ; melt(number) ; swap(number, deed, pair)
    pin(name, address) ; unpin(name) ; undo(times) ; again(times) ; trial() ; copy() ; pinned(name) ; names_at(address)
    number_of(address) ; address_of(number) ; lead(address, word) ; cycle_length(address, word) ; degree(address, pair)
    carried(number, deed, pair, address) ; cycles(word) ; counts() ; has_dyeing(sign) ; built() ; as_deed()"""


def told(text):
    """The pairs of a name and its parameters, in a text with ";" or line ends between two."""
    for each in text.replace("\n", ";").split(";"):
        name, _, rest = each.strip().rstrip(")").partition("(")
        yield name, [part.strip() for part in rest.split(",")]


class InterfaceTest(unittest.TestCase):

    def test_names_and_parameters(self):
        for module_name, text in INTERFACE.items():
            module = importlib.import_module("netsredrawn." + module_name)
            for name, parameters in told(text):
                function = getattr(module, name)
                self.assertTrue(inspect.isfunction(function), name)
                self.assertEqual(function.__module__, module.__name__)
                self.assertEqual(list(inspect.signature(function).parameters), parameters)

    def test_board(self):
        from netsredrawn.live import Board
        self.assertEqual(Board.__module__, "netsredrawn.live")
        self.assertEqual(list(inspect.signature(Board).parameters), ["net"])
        for name, parameters in told(BOARD):
            method = vars(Board)[name]
            self.assertTrue(inspect.isfunction(method), name)
            self.assertEqual(list(inspect.signature(method).parameters), ["self"] + [part for part in parameters if part], name)
        for name in ("undo", "again"):
            times = inspect.signature(vars(Board)[name]).parameters["times"]
            self.assertEqual((times.kind, times.default), (inspect.Parameter.KEYWORD_ONLY, 1))
        self.assertIsInstance(vars(Board)["size"], property)
        self.assertIn("__eq__", vars(Board))
        board = Board(net=((1, 0, 3, 2), (2, 3, 0, 1), (2, 3, 0, 1)))
        self.assertEqual((board.record, board.pins, board.size), ((), (), 4))

    def test_by_name(self):
        sphere = ((1, 0, 3, 2), (2, 3, 0, 1), (2, 3, 0, 1))
        from netsredrawn.folding import folded
        from netsredrawn.nets import lead
        from netsredrawn.walks import walked
        self.assertEqual(lead(word="01", flag=0, net=sphere), 3)
        self.assertEqual(folded(wordlist=()), ((1, 0, 3, 2), (None,) * 4, (2, 3, 0, 1)))
        self.assertEqual(walked(walk="01", cell=0, deed=(((0, "0"),), ((0, "1"),), ((0, "2"),))), (0, "01"))


if __name__ == "__main__":
    unittest.main()
