"""What LANGUAGE.md says of files, sizes, signs and imports, and where the interface's names stand."""

import ast
import pathlib
import unittest

import lastfords.closures
import lastfords.floods
import lastfords.partings
import lastfords.risings
import lastfords.talks

FOLDER = pathlib.Path(__file__).resolve().parent.parent / "lastfords"
TALKS = ("is_pair", "is_pairs", "is_rule", "is_flood", "Talk", "pair_text", "pairs_text", "rule_text", "flood_text",
         "with_rule", "without_rule", "with_flood", "without_flood", "flood_told", "with_islands", "only_islands",
         "renamed")
CLOSURES = ("closure", "closed_lots", "follows", "steps_to", "is_steps", "fords_against", "is_fords_against",
            "least_wants", "says_no_less", "alike_rules", "parting_rule", "idle_rules", "thinned", "never_later", "mates",
            "told_of")
PARTINGS = ("is_parting", "pairs_joined", "lots_from", "is_finer", "both_join", "either_joins", "broken_by", "is_state",
            "least_state", "join_states", "all_states", "how_many_states", "state_at", "number_of_state", "next_above",
            "next_below", "told_again", "are_told", "rules_for")
RISINGS = ("how_many_histories", "history_at", "is_history", "number_of_history", "lengths", "shortest", "longest",
           "some_shortest", "some_longest", "next_states", "histories_behind", "histories_with", "share_with",
           "possible_states", "sure_states", "parted_at", "parted_first", "fords_in", "partings_by")
FLOODS = ("can_be", "stuck_lot", "is_stuck", "least_stuck_lots", "waters", "fewest_waters", "lowest_floods",
          "highest_floods", "is_order", "how_many_orders", "nth_order", "order_number", "fit_by", "is_fit")
MODULES = {"lastfords.talks": (lastfords.talks, TALKS), "lastfords.closures": (lastfords.closures, CLOSURES),
           "lastfords.partings": (lastfords.partings, PARTINGS), "lastfords.risings": (lastfords.risings, RISINGS),
           "lastfords.floods": (lastfords.floods, FLOODS)}
LIBRARY = ("heapq", "math", "itertools", "collections")


class LayoutTest(unittest.TestCase):

    def setUp(self):
        self.files = sorted(FOLDER.glob("*.py"))
        self.texts = {path.name: path.read_text(encoding="utf-8") for path in self.files}

    def test_the_folder_has_python_files_alone(self):
        self.assertEqual([path for path in sorted(FOLDER.iterdir()) if path.name != "__pycache__"], self.files)
        self.assertIn("__init__.py", self.texts)

    def test_sizes_and_signs(self):
        for name, text in self.texts.items():
            lines = text.split("\n")
            self.assertLessEqual(len(lines), 399, name)
            self.assertTrue(all(sign == "\n" or " " <= sign <= "~" for sign in text), name)
            self.assertLessEqual(max(map(len, lines)), 120, name)

    def test_functions_are_small_and_files_have_docstrings(self):
        for name, text in self.texts.items():
            tree = ast.parse(text)
            self.assertTrue(ast.get_docstring(tree), name)
            for node in ast.walk(tree):
                if isinstance(node, ast.FunctionDef):
                    self.assertLessEqual(node.end_lineno - node.lineno + 1, 40, (name, node.name))

    def test_imports(self):
        for name, text in self.texts.items():
            for node in ast.walk(ast.parse(text)):
                self.assertFalse(isinstance(node, ast.Import), name)
                if isinstance(node, ast.ImportFrom):
                    self.assertEqual(node.level, 0)
                    self.assertTrue(node.module.startswith("lastfords.") or node.module in LIBRARY, (name, node.module))

    def test_the_interface_stands_in_its_files(self):
        for name, (module, there) in MODULES.items():
            for word in there:
                self.assertEqual(getattr(module, word).__module__, name, word)


if __name__ == "__main__":
    unittest.main()
