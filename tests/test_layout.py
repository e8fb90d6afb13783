"""That the interface stands in the files that list it, and that files keep to the sizes that are set."""

import ast
import functools
import pathlib
import unittest

FOLDER = pathlib.Path(__file__).parent.parent / "baysout"
LIBRARY = {"math": ("gcd",)}
INTERFACE = {
    "errors": "FenceError BadNumber BadPoint BadFence BadMouth BadFilm BadWord BadName BadPaper Misfit NoName Twice"
              " TooMany BadText BadLine",
    "checks": "is_integer is_within is_point",
    "papers": "Paper Denial fixed",
    "points": "side_of do_meet",
    "fences": "Fence where points_of",
    "changed": "moved turned mirrored begun grown with_corner without_corner straightened",
    "hulls": "hull_of hull_edges is_convex covers",
    "mouths": "mouths_of first_mouths stretch_of bay_area2",
    "turnings": "turned_out",
    "films": "played stages film_out film_text film_of",
    "lifts": "direction_of directions_of lifts_of ranks_of to_and_fro lifted_less",
    "ends": "sorted_row end_of way_in width_in Ended ended",
    "check_ends": "ends_at shows_ended",
    "counts": "Least Most First Second bite at_most all_stages film_counts least_film most_film winner",
    "check_counts": "shows_least shows_most shows_winner",
    "headlands": "headlands turned_in",
    "steps": "is_step done taken_back",
    "alike": "Led Unlike led",
    "check_alike": "shows_led",
    "words": "fence_of word_of",
    "makes": "comb spiral stairs zigzag",
    "pictures": "picture_of picture_beside pictures_of",
    "desks": "Desk",
    "charts": "are_apart Chart outings_of let_of put_out behind fields_of meetings Free Clash judged",
    "check_charts": "shows_judged",
    "tracks": "sides_behind places_behind track_of corners_by",
    "passes": "Order Torn passed passes_of order_of",
    "check_passes": "shows_order",
    "when": "Soon Late Never Already when gained land_ever soonest latest",
    "check_when": "shows_soon shows_late",
    "stories": "story_of wrong_line story_in shows_story",
}
METHODS = {
    "Paper": {"__init__", "__eq__", "__bool__"}, "Denial": {"__init__", "__eq__", "__bool__"},
    "Fence": {"__init__", "__eq__", "__str__", "read"},
    "Ended": {"__init__"}, "Least": {"__init__"}, "Most": {"__init__"}, "First": {"__init__"}, "Second": {"__init__"},
    "Led": {"__init__"}, "Unlike": {"__init__"}, "Free": {"__init__"}, "Clash": {"__init__"},
    "Order": {"__init__"}, "Torn": {"__init__"}, "Soon": {"__init__"}, "Late": {"__init__"}, "Never": {"__init__"},
    "Already": {"__init__"},
    "Desk": {"__init__", "__eq__", "tell", "names", "fence", "lines", "twin", "read"},
    "Chart": {"__init__", "__eq__", "__str__", "read", "fence"},
}


@functools.cache
def trees():
    return {path.stem: ast.parse(path.read_text()) for path in sorted(FOLDER.glob("*.py"))}


class Layout(unittest.TestCase):
    def test_interface_is_defined_in_its_files(self):
        for name, words in INTERFACE.items():
            body = trees()[name].body
            there = {node.name: node for node in body if isinstance(node, (ast.FunctionDef, ast.ClassDef))}
            self.assertLessEqual(set(words.split()), set(there), name)
            for word in set(words.split()) & set(METHODS):
                methods = {node.name for node in there[word].body if isinstance(node, ast.FunctionDef)}
                self.assertLessEqual(METHODS[word], methods)

    def test_only_files_of_the_package(self):
        for path in FOLDER.iterdir():
            if path.name != "__pycache__":
                self.assertRegex(path.name, r"^[a-z_]+\.py$")

    def test_sizes_and_characters(self):
        for path in FOLDER.glob("*.py"):
            text = path.read_text(encoding="utf-8")
            self.assertLessEqual(set(text), set(map(chr, range(32, 127))) | {"\n"}, path)
            self.assertLessEqual(len(text.splitlines()), 399, path)
            self.assertLessEqual(max(len(line) for line in text.splitlines()), 120, path)
        for name, tree in trees().items():
            for node in ast.walk(tree):
                if isinstance(node, ast.FunctionDef):
                    self.assertLessEqual(node.end_lineno - node.lineno + 1, 40, (name, node.name))

    def test_imports(self):
        for name, tree in trees().items():
            for node in ast.walk(tree):
                self.assertNotIsInstance(node, ast.Import, name)
                if isinstance(node, ast.ImportFrom):
                    words = [alias.name for alias in node.names]
                    self.assertEqual(node.level, 0)
                    if node.module in LIBRARY:
                        self.assertLessEqual(set(words), set(LIBRARY[node.module]))
                        continue
                    self.assertTrue(node.module.startswith("baysout."), (name, node.module))
                    body = trees()[node.module.split(".")[1]].body
                    there = {each.name for each in body if isinstance(each, (ast.FunctionDef, ast.ClassDef))}
                    there |= {each.targets[0].id for each in body if isinstance(each, ast.Assign)}
                    self.assertLessEqual(set(words), there, (name, node.module))


if __name__ == "__main__":
    unittest.main()
