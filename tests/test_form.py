"""The form of the package: its files, what each defines, and the limits of its code that a test can see."""

import ast
import unittest
from pathlib import Path

PACKAGE = Path(__file__).resolve().parent.parent / "skipstops"
FILES = sorted(PACKAGE.glob("*.py"))
INTERFACE = {
    "errors.py": ["RingError", "InvalidTable", "NotSkip", "TooLarge", "Bending", "TooLong", "InvalidText"],
    "rings.py": ["is_table", "is_ring", "plain_ring", "are_alike", "trip_length", "around", "around_length"],
    "amounts.py": ["cuts_of", "cut_amounts", "place_amounts", "is_skip", "bar_of", "is_bar", "heavy_cuts", "table_with"],
    "finding.py": ["shortest_length", "has_skip", "count_skip", "nth_skip", "skip_index", "skip_ring",
                   "sure_neighbours", "possible_neighbours", "count_trips", "nth_trip", "common_skip"],
    "far.py": ["opposite_pairs", "far_trip", "greatest_sum", "least_sum", "longest_length", "shows_far"],
    "choosing.py": ["cheapest_stops", "dearest_stops", "best_prizes", "most_stops", "adds"],
    "shares.py": ["costs", "fair_shares", "shares_by", "bending", "pays_beyond", "limits", "even_steps"],
    "changes.py": ["slack", "grown", "shrunk", "ring_without", "new_spots", "left_out"],
    "sources.py": ["tree_table", "walk_ring", "ring_table", "crossing_cuts"],
    "live.py": ["LiveRing", "SkipRing", "ShortRing", "ShortSkipRing"],
    "texts.py": ["show_table", "show_ring", "show_shares", "read_table", "read_ring", "read_shares"],
    "console.py": ["Console"],
}
# For each class what its own body defines, not that of a base class.
METHODS = {
    ("live.py", "LiveRing"): ["__init__", "change", "add", "drop", "turn", "undo", "tried", "table", "ring", "is_skip", "length",
                              "log", "__len__", "described", "twin", "__eq__"],
    ("live.py", "SkipRing"): ["__init__", "twin"],
    ("live.py", "ShortRing"): ["__init__", "most", "described", "twin"],
    ("live.py", "ShortSkipRing"): ["__init__", "most", "described", "twin"],
    ("console.py", "Console"): ["__init__", "execute"],
}
LIBRARY = {"math": ["factorial", "gcd", "lcm"], "itertools": ["combinations"]}
# Beside classes with == and len, any, all, sum and the like take lists, and nothing is sorted in place.
BARRED = (ast.AsyncFunctionDef, ast.Global, ast.Import, ast.Set, ast.Div, ast.AnnAssign, ast.GeneratorExp, ast.Match)
BARRED_METHODS = ("sort", "discard", "format")


def tree_of(path):
    return ast.parse(path.read_text())


class Form(unittest.TestCase):
    def test_each_name_is_defined_in_its_file(self):
        for name, wanted in INTERFACE.items():
            defined = [node.name for node in tree_of(PACKAGE / name).body if hasattr(node, "name")]
            self.assertEqual([one for one in wanted if one not in defined], [])

    def test_each_method_is_defined_in_its_class(self):
        for (name, told), wanted in METHODS.items():
            bodies = [node.body for node in tree_of(PACKAGE / name).body if getattr(node, "name", None) == told]
            defined = [node.name for body in bodies for node in body if isinstance(node, ast.FunctionDef)]
            with self.subTest(told):
                self.assertEqual([one for one in wanted if defined.count(one) != 1], [])

    def test_barred_methods(self):
        for path in FILES:
            for node in ast.walk(tree_of(path)):
                if isinstance(node, ast.Attribute):
                    with self.subTest(path.name):
                        self.assertNotIn(node.attr, BARRED_METHODS)

    def test_names_of_attributes_are_not_those_of_properties(self):
        properties, stored = set(), set()
        for path in FILES:
            for node in ast.walk(tree_of(path)):
                if isinstance(node, ast.FunctionDef) and node.decorator_list:
                    properties.add(node.name)
                if isinstance(node, ast.Attribute) and isinstance(node.ctx, ast.Store):
                    stored.add(node.attr)
        self.assertEqual(properties, {"table", "ring", "is_skip", "length", "log", "most"})
        self.assertEqual(properties & stored, set())

    def test_characters_and_sizes(self):
        self.assertTrue(FILES)
        for path in FILES:
            text = path.read_text()
            lines = text.split("\n")
            with self.subTest(path.name):
                self.assertTrue(all(sign == "\n" or " " <= sign <= "~" for sign in text))
                self.assertLessEqual(len(lines), 400)
                self.assertLessEqual(max(len(line) for line in lines), 120)

    def test_functions_are_short(self):
        for path in FILES:
            for node in ast.walk(tree_of(path)):
                if isinstance(node, ast.FunctionDef):
                    with self.subTest(path.name, function=node.name):
                        self.assertLessEqual(node.end_lineno - node.lineno + 1, 40)

    def test_imports_come_from_the_files_that_define_them(self):
        for path in FILES:
            for node in ast.walk(tree_of(path)):
                with self.subTest(path.name):
                    self.assertNotIsInstance(node, BARRED)
                    if isinstance(node, ast.ImportFrom):
                        self.assertEqual([one.asname for one in node.names if one.asname], [])
                        defined = LIBRARY.get(node.module) or self.defined_in(node)
                        self.assertEqual([one.name for one in node.names if one.name not in defined], [])

    def defined_in(self, node):
        """The names that the module of the package from which a line imports defines itself."""
        self.assertEqual([node.level, node.module.split(".")[0]], [0, "skipstops"])
        source = tree_of(PACKAGE / (node.module.split(".")[1] + ".py"))
        defined = [one.name for one in source.body if hasattr(one, "name")]
        return defined + [one.targets[0].id for one in source.body if isinstance(one, ast.Assign)]


if __name__ == "__main__":
    unittest.main()
