"""[21]: the names, the files, the arguments and their order."""

import importlib
import inspect
import unittest

LANDED = {
    "blendworlds.books": {
        "is_kind": "many thing", "is_book": "thing", "with_kind": "book kind", "without_kind": "book number",
        "with_row": "book number row", "without_row": "book number row", "with_telling": "book telling",
        "columns": "book number", "constants": "book", "single_kinds": "book", "is_turn": "book thing",
        "turned": "book turn", "turns_into": "book other", "turns_of": "book", "alike_values": "book",
        "without_values": "book values",
    },
    "blendworlds.puzzles": {
        "is_puzzle": "book thing", "broken_ties": "book puzzle setting", "keeps_ties": "book puzzle setting",
        "is_setting": "book puzzle thing", "parts_of": "puzzle", "settings": "book puzzle",
        "few_settings": "book puzzle number", "a_setting": "book puzzle", "is_solvable": "book puzzle",
        "how_many_settings": "book puzzle", "nth_setting": "book puzzle number", "shown_rows": "book puzzle",
        "settings_showing": "book puzzle row", "values_at": "book puzzle place", "sure_places": "book puzzle",
        "part_puzzle": "puzzle place", "with_tie": "book puzzle number spots", "without_tie": "puzzle tie",
        "needless_ties": "book puzzle", "with_told": "book puzzle place value", "without_told": "puzzle place",
        "with_shown": "puzzle shown", "with_place": "puzzle", "merged": "puzzle place twin", "beside": "one other",
    },
    "blendworlds.blends": {
        "tuples_of": "book k", "is_blend": "book k thing", "projections": "book k", "place_of": "book values",
        "blend_at": "book k blend values", "blended": "book k blend rows", "free_puzzle": "book k",
        "broken_rows": "book k blend number", "is_broken": "book k blend number thing", "keeps_kind": "book k blend number",
        "is_keeping": "book k blend", "a_blend": "book k told", "blends": "book k", "how_many_blends": "book k",
        "put_behind": "book k blend many others", "felt_by": "book k blend", "turned_blend": "book k blend turn",
    },
    "blendworlds.showing": {
        "follows": "book rows row", "following": "book rows", "a_maker": "book rows row", "is_maker": "book rows row thing",
        "parting_puzzle": "book rows row", "is_parting_puzzle": "book rows row thing", "fewest_seeds": "book rows",
        "can_show": "book rows", "showing_puzzle": "book rows", "is_showing_puzzle": "book rows thing",
        "can_be_stuck": "book", "stuck_puzzle": "book", "is_stuck_puzzle": "book thing",
        "is_told_by_others": "book number", "needless_kinds": "book",
    },
    "blendworlds.spared": {
        "are_spared": "book values", "sparing_blend": "book values", "wanting_puzzle": "book values",
        "is_wanting": "book values thing", "greatest_spared": "book", "wanted_values": "book", "is_small": "book",
        "small_book": "book", "taken_out": "book order", "is_folding": "one other thing", "folding": "book",
        "unfolded": "book setting", "solves_too": "one other", "unsolved_puzzle": "one other",
        "is_unsolved": "one other thing",
    },
    "blendworlds.strikes": {
        "first_left": "book puzzle", "is_left": "book puzzle thing", "is_open": "book puzzle left strike",
        "open_strikes": "book puzzle left", "left_behind": "book puzzle strikes", "is_strikes": "book puzzle thing",
        "all_strikes": "book puzzle", "left_at": "book puzzle", "is_struck_empty": "book puzzle",
        "is_strikes_to": "book puzzle place value thing", "strikes_to": "book puzzle place value",
        "fewest_strikes_to": "book puzzle place value", "found_by_strikes": "book puzzle", "sets_of": "book",
        "sets_puzzle": "book", "sets_setting": "book", "strikes_decide": "book", "set_by_sets": "book puzzle chosen",
        "undecided_puzzle": "book", "is_undecided": "book thing",
    },
    "blendworlds.leasts": {
        "is_order": "book thing", "is_beneath": "book order one other", "lowest": "book order rows",
        "least_setting": "book puzzle order", "minimal_settings": "book puzzle order", "least_by_strikes": "book puzzle order",
        "has_leasts": "book order", "least_blend": "book order", "is_least_blend": "book order thing",
        "leastless_puzzle": "book order", "is_leastless": "book order thing", "least_orders": "book",
    },
    "blendworlds.pairs": {
        "middle_of": "book one two three", "goes_by_pairs": "book", "pairs_paper": "book", "is_pairs_paper": "book thing",
        "first_tables": "book puzzle", "tight_tables": "book puzzle", "is_tight": "book puzzle",
        "is_empty_somewhere": "book puzzle", "setting_by_pairs": "book puzzle", "least_clash": "book puzzle",
    },
    "blendworlds.sums": {
        "sums_blend": "many", "has_sums": "book", "sums_paper": "book", "is_sums_paper": "book thing",
        "steps_of": "book puzzle", "free_places": "book puzzle", "first_steps": "book puzzle", "how_many_steps": "book puzzle",
        "are_free": "book puzzle places", "are_enough": "book puzzle places", "fewest_enough": "book puzzle",
        "how_many_enough": "book puzzle", "set_by": "book puzzle places", "step_at": "book puzzle place",
    },
    "blendworlds.moves": {
        "is_move": "book puzzle setting thing", "open_moves": "book puzzle setting", "is_way": "book puzzle setting thing",
        "settings_along": "setting way", "turned_back": "setting way", "a_way": "book puzzle one other",
        "leads": "book puzzle one other", "fewest_moves": "book puzzle one other",
        "is_fewest_way": "book puzzle one other thing", "setting_parts": "book puzzle", "stuck_places": "book puzzle setting",
        "frozen_settings": "book puzzle", "blended_way": "book k blend starts ways", "gives_way": "book one other",
        "rests": "book", "pairs_left": "book", "leads_always": "book",
    },
    "blendworlds.making": {
        "is_single": "book puzzle", "is_enough": "book puzzle setting spots", "fewest_clues": "book puzzle setting",
        "lean_clues": "book puzzle setting", "tells_all": "book puzzle spots", "fewest_to_tell": "book puzzle",
        "kept_away": "book puzzle place", "needless_told": "book puzzle", "seen_clues": "book puzzle",
        "left_by_tries": "book puzzle", "reason_for": "book puzzle place", "is_hint_row": "book puzzle thing",
        "fewest_hints": "book puzzle", "most_hints": "book puzzle", "spoilt_by": "book puzzle", "how_many_lean": "book puzzle",
        "fewest_to_have": "book puzzle number",
    },
    "blendworlds.changes": {
        "is_change": "book puzzle thing", "behind": "book puzzle changes", "back_of": "changes", "change_way": "book one other",
        "fewest_changes": "book one other", "is_change_way": "book one other thing", "touched": "book puzzle change",
        "lost_settings": "book puzzle change", "won_settings": "book puzzle change", "turned_places": "book puzzle change",
        "strikes_more": "book puzzle change", "strikes_back": "book puzzle change", "needless_offs": "book puzzle",
        "barest": "book puzzle", "fewest_off": "book puzzle", "blames": "book puzzle", "lost_blends": "book kind k",
        "takes_none": "book kind k", "freed_blends": "book number k",
    },
    "blendworlds.worlds": {
        "side_by_side": "book other", "by_kinds": "book other", "halves": "book other row", "joined": "book other row second",
        "puzzle_beside": "book other puzzle second", "puzzle_halves": "book other puzzle",
        "blend_beside": "book other k blend second", "blend_half": "book other k blend value", "spared_pairs": "book other",
    },
    "blendworlds.judge": {
        "is_promise": "book thing", "is_kept": "book promise", "a_paper": "book promise", "is_paper": "book promise thing",
        "kept_of": "book promises", "fall_with": "book kind promises", "come_without": "book number promises",
        "blamed_kinds": "book promise", "kinds_to_go": "book promise",
    },
    "blendworlds.texts": {
        "row_text": "row", "read_row": "book text", "book_text": "book", "read_book": "text", "puzzle_text": "puzzle",
        "read_puzzle": "book text", "settings_text": "rows", "read_settings": "book puzzle text",
    },
    "blendworlds.desk": {"is_request": "book thing", "replies": "book places text"},
}
CLASSES = {
    "blendworlds.errors": {
        "NoKind": "number", "NoPlace": "number", "NothingDone": "", "NoValue": "number", "NoWord": "word",
        "BadLine": "number", "BadText": "piece", "CanNot": "", "Unfit": "",
    },
    "blendworlds.board": {"Board": "book places"},
}
BOARD = {
    "tie": "number spots", "untie": "tie", "tell": "place value", "untell": "place", "show": "spots", "more": "",
    "put": "place value", "clear": "place", "kind": "kind", "unkind": "number", "undo": "", "__len__": "", "twin": "",
    "book": "", "puzzle": "", "sets": "", "count": "", "is_done": "", "broken": "", "sure": "", "seen": "", "hints": "",
    "wrong": "", "changed": "", "__eq__": "other",
}


class InterfaceTest(unittest.TestCase):
    def test_functions_and_their_arguments(self):
        for path, functions in LANDED.items():
            module = importlib.import_module(path)
            for name, words in functions.items():
                with self.subTest(path=path, name=name):
                    function = getattr(module, name)
                    self.assertTrue(inspect.isfunction(function))
                    self.assertEqual(function.__module__, path)
                    asked = inspect.signature(function).parameters.values()
                    self.assertEqual([part.name for part in asked], words.split())
                    for part in asked:
                        self.assertEqual((part.kind, part.default), (part.POSITIONAL_OR_KEYWORD, part.empty))

    def test_classes_stand_in_their_file(self):
        for path, classes in CLASSES.items():
            module = importlib.import_module(path)
            for name, words in classes.items():
                with self.subTest(path=path, name=name):
                    made = getattr(module, name)
                    self.assertTrue(inspect.isclass(made))
                    self.assertEqual(made.__module__, path)
                    if words:
                        asked = list(inspect.signature(made.__init__).parameters)
                        self.assertEqual(asked, ["self", *words.split()])

    def test_methods_of_boards(self):
        made = importlib.import_module("blendworlds.board").Board
        for name, words in BOARD.items():
            with self.subTest(name=name):
                # in the class itself, not in a base class
                self.assertIn(name, vars(made))
                asked = list(inspect.signature(vars(made)[name]).parameters.values())
                self.assertEqual([part.name for part in asked], ["self", *words.split()])
                for part in asked:
                    self.assertEqual((part.kind, part.default), (part.POSITIONAL_OR_KEYWORD, part.empty))


if __name__ == "__main__":
    unittest.main()
