"""[21]: the names, the files, the arguments and their order."""

import importlib
import inspect
import unittest

LANDED = {
    "blendworlds.books": {
        "is_kind": "many thing", "is_book": "thing", "with_kind": "book kind", "without_kind": "book number",
        "with_row": "book number row", "without_row": "book number row", "with_telling": "book telling",
        "columns": "book number", "constants": "book", "single_kinds": "book", "is_turn": "book thing",
        "turned": "book turn", "turns_into": "book other", "turns_of": "book", "alike_values": "book",
        "without_values": "book values",
    },
    "blendworlds.puzzles": {
        "is_puzzle": "book thing", "broken_ties": "book puzzle setting", "keeps_ties": "book puzzle setting",
        "is_setting": "book puzzle thing", "parts_of": "puzzle", "settings": "book puzzle",
        "few_settings": "book puzzle number", "a_setting": "book puzzle", "is_solvable": "book puzzle",
        "how_many_settings": "book puzzle", "nth_setting": "book puzzle number", "shown_rows": "book puzzle",
        "settings_showing": "book puzzle row", "values_at": "book puzzle place", "sure_places": "book puzzle",
        "part_puzzle": "puzzle place", "with_tie": "book puzzle number spots", "without_tie": "puzzle tie",
        "needless_ties": "book puzzle", "with_told": "book puzzle place value", "without_told": "puzzle place",
        "with_shown": "puzzle shown", "with_place": "puzzle", "merged": "puzzle place twin", "beside": "one other",
    },
}
CLASSES = {
    "blendworlds.errors": {
        "NoKind": "number", "NoPlace": "number", "NothingDone": "", "NoValue": "number", "NoWord": "word",
        "BadLine": "number", "BadText": "piece", "CanNot": "", "Unfit": "",
    },
}


class InterfaceTest(unittest.TestCase):
    def test_functions_and_their_arguments(self):
        for path, functions in LANDED.items():
            module = importlib.import_module(path)
            for name, words in functions.items():
                with self.subTest(path=path, name=name):
                    function = getattr(module, name)
                    self.assertTrue(inspect.isfunction(function))
                    self.assertEqual(function.__module__, path)
                    asked = inspect.signature(function).parameters.values()
                    self.assertEqual([part.name for part in asked], words.split())
                    for part in asked:
                        self.assertEqual((part.kind, part.default), (part.POSITIONAL_OR_KEYWORD, part.empty))

    def test_classes_stand_in_their_file(self):
        for path, classes in CLASSES.items():
            module = importlib.import_module(path)
            for name, words in classes.items():
                with self.subTest(path=path, name=name):
                    made = getattr(module, name)
                    self.assertTrue(inspect.isclass(made))
                    self.assertEqual(made.__module__, path)
                    if words:
                        asked = list(inspect.signature(made.__init__).parameters)
                        self.assertEqual(asked, ["self", *words.split()])


if __name__ == "__main__":
    unittest.main()
