"""What LANGUAGE.md says of files, sizes, signs and imports, and where the interface's names stand."""

import ast
import importlib
import inspect
import pathlib
import unittest

from lastfords.board import Board
from lastfords.looks import Looks
from lastfords.talks import Talk

FOLDER = pathlib.Path(__file__).resolve().parent.parent / "lastfords"
TALKS = ("is_pair", "is_pairs", "is_rule", "is_flood", "Talk", "pair_text", "pairs_text", "rule_text", "flood_text",
         "with_rule", "without_rule", "with_flood", "without_flood", "flood_told", "with_islands", "only_islands",
         "renamed")
CLOSURES = ("closure", "closed_lots", "follows", "steps_to", "is_steps", "fords_against", "is_fords_against",
            "least_wants", "says_no_less", "alike_rules", "parting_rule", "idle_rules", "thinned", "never_later", "mates",
            "told_of")
PARTINGS = ("is_parting", "pairs_joined", "lots_from", "is_finer", "both_join", "either_joins", "broken_by", "is_state",
            "least_state", "join_states", "all_states", "how_many_states", "state_at", "number_of_state", "next_above",
            "next_below", "told_again", "are_told", "rules_for")
RISINGS = ("how_many_histories", "history_at", "is_history", "number_of_history", "lengths", "shortest", "longest",
           "some_shortest", "some_longest", "next_states", "histories_behind", "histories_with", "share_with",
           "possible_states", "sure_states", "parted_at", "parted_first", "fords_in", "partings_by")
FLOODS = ("can_be", "stuck_lot", "is_stuck", "least_stuck_lots", "waters", "fewest_waters", "lowest_floods",
          "highest_floods", "is_order", "how_many_orders", "nth_order", "order_number", "fit_by", "is_fit")
SURE = ("stands", "sure_higher", "shown", "sure_joined", "sure_parted", "may_be_seen", "rule_holds", "surely_seen",
        "seen_fit", "idle_floods", "idle_tellings", "as_much", "same_fits")
FORDS = ("is_fords", "islands_of", "height_of", "parting_water", "lasts_of", "is_lasts", "widest_way", "is_widest_way",
         "parting_at", "turning_waters", "idle_pairs", "bare_fords", "is_bare", "same_lasts", "never_earlier", "earlier_at",
         "is_earlier_at", "fords_keep", "broken_at", "flood_waters", "misfit", "fits_talk", "with_height",
         "how_many_fords", "least_raise", "raised_way", "is_raised_way", "fewest_sunk", "sunk_pairs", "is_sunk_pairs",
         "ways_apart", "are_ways_apart")
LOOKS = ("is_look", "is_sight", "how_many_sights", "sight_at", "number_of_sight", "open_looks", "answered", "left_by",
         "best_look", "plan", "fewest_looks", "depth_of", "is_plan", "Looks")
PRICES = ("items", "without_items", "frees", "stuck_items", "least_frees", "cheapest_free", "how_many_cheapest",
          "kept_or_out", "rule_lots", "cheapest_rules", "least_bases", "cheapest_base")
GREAT = ("islands_in", "last_height", "lots_at", "lot_at", "greatest_lot", "how_many_joined", "waters_of", "keeps",
         "least_water")
FILES = {"talks": TALKS, "closures": CLOSURES, "partings": PARTINGS, "risings": RISINGS, "floods": FLOODS, "sure": SURE,
         "fords": FORDS, "looks": LOOKS, "prices": PRICES, "great": GREAT, "board": ("Board",),
         "texts": ("pair_in", "rule_in", "board_text", "board_in"), "desk": ("answers",)}
# Of each class its methods, with the names of their parameters behind the object itself, and its properties.
METHODS = {
    Talk: {"__init__": "islands rules floods", "__len__": "", "__getitem__": "name", "__contains__": "thing", "__eq__": "other",
           "__add__": "other", "__rshift__": "rule"},
    Looks: {"__init__": "talk", "__len__": "", "__contains__": "look", "__eq__": "other", "learn": "look joined", "back": "",
            "twin": "", "told": "look", "left": ""},
    Board: {"__init__": "islands", "__len__": "", "__contains__": "name", "__getitem__": "name", "__setitem__": "name talk",
            "__iadd__": "other", "__eq__": "other", "__iter__": "", "stands": "name one other", "shown": "name flood pair",
            "above": "name", "doubled": "", "effect": "name talk", "leave": "name", "tell": "name flood pair joined",
            "frame": "name low high", "lift": "name", "attempt": "deeds", "undo": "", "twin": ""}}
PROPERTIES = {Talk: ("islands", "rules", "floods", "names", "pairs", "text"), Looks: ("talk", "answers"),
              Board: ("islands", "names", "frames")}
LIBRARY = ("heapq", "math", "itertools", "collections")


class LayoutTest(unittest.TestCase):

    def setUp(self):
        self.files = sorted(FOLDER.glob("*.py"))
        self.texts = {path.name: path.read_text(encoding="utf-8") for path in self.files}

    def test_the_folder_has_python_files_alone(self):
        self.assertEqual([path for path in sorted(FOLDER.iterdir()) if path.name != "__pycache__"], self.files)
        self.assertIn("__init__.py", self.texts)

    def test_sizes_and_signs(self):
        for name, text in self.texts.items():
            lines = text.split("\n")
            self.assertLessEqual(len(lines), 399, name)
            self.assertTrue(all(sign == "\n" or " " <= sign <= "~" for sign in text), name)
            self.assertLessEqual(max(map(len, lines)), 120, name)

    def test_functions_are_small_and_files_have_docstrings(self):
        for name, text in self.texts.items():
            tree = ast.parse(text)
            self.assertTrue(ast.get_docstring(tree), name)
            for node in ast.walk(tree):
                if isinstance(node, ast.FunctionDef):
                    self.assertLessEqual(node.end_lineno - node.lineno + 1, 40, (name, node.name))

    def test_imports(self):
        for name, text in self.texts.items():
            for node in ast.walk(ast.parse(text)):
                self.assertFalse(isinstance(node, ast.Import), name)
                if isinstance(node, ast.ImportFrom):
                    self.assertEqual(node.level, 0)
                    self.assertTrue(node.module.startswith("lastfords.") or node.module in LIBRARY, (name, node.module))

    def test_the_interface_stands_in_its_files(self):
        for name, there in FILES.items():
            module = importlib.import_module(f"lastfords.{name}")
            for word in there:
                self.assertEqual(getattr(module, word).__module__, module.__name__, word)

    def test_methods_stand_in_their_classes(self):
        for kind, methods in METHODS.items():
            for name, parameters in methods.items():
                self.assertEqual(list(inspect.signature(vars(kind)[name]).parameters)[1:], parameters.split(), (kind, name))
            for name in PROPERTIES[kind]:
                self.assertIsInstance(vars(kind)[name], property)
                self.assertIsNone(vars(kind)[name].fset)
        self.assertIsInstance(vars(Talk)["of"], staticmethod)


if __name__ == "__main__":
    unittest.main()
