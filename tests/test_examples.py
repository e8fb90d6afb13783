"""Every example of the document, as it stands there, one file a section in the folder examples.

Names stay as earlier sections made them last, as the document says.
"""

import ast
import importlib
import pathlib
import unittest

SECTIONS = (
    "checks", "papers", "points", "fences", "changed", "hulls", "mouths", "turnings", "films", "lifts", "ends",
    "check_ends", "counts", "check_counts", "headlands", "steps", "alike", "check_alike", "words",
    "makes", "pictures", "desks", "charts", "check_charts", "tracks", "passes", "check_passes", "when", "check_when",
    "stories",
)
FOLDER = pathlib.Path(__file__).parent / "examples"


def examples_of(text):
    """Pairs of a statement and the line that is told for it, None for none."""
    lines = text.splitlines()
    for at, line in enumerate(lines):
        if line.startswith(">>> "):
            told = lines[at + 1] if at + 1 < len(lines) else ">>> "
            yield line[4:], None if told.startswith(">>> ") else told


def outcome_of(statement, names):
    """What a statement returns, as repr, or the class and the fields of what it raises."""
    try:
        try:
            return repr(eval(statement, names))
        except SyntaxError:
            exec(statement, names)
            return None
    except ValueError as error:
        return (error.__class__.__name__, tuple(vars(error).values()))


def made_in(module):
    """The functions and classes that a file defines: an earlier example may have kept something by their names."""
    made = vars(importlib.import_module(module))
    return {name: value for name, value in made.items() if getattr(value, "__module__", None) == module}


def wanted_of(told):
    """The outcome that a line of the document tells."""
    if told is None or not told.startswith("raises "):
        return told
    call = ast.parse(told[len("raises "):], mode="eval").body
    if isinstance(call, ast.Name):
        return (call.id, None)
    return (call.func.id, tuple(ast.literal_eval(field) for field in call.args))


class Examples(unittest.TestCase):
    def test_all(self):
        names, many = {}, 0
        for section in SECTIONS:
            names.update(vars(importlib.import_module(f"baysout.{section}")))
        for section in SECTIONS:
            names.update(made_in(f"baysout.{section}"))
            for statement, told in examples_of((FOLDER / f"{section}.txt").read_text()):
                many += 1
                with self.subTest(section=section, statement=statement):
                    wanted, outcome = wanted_of(told), outcome_of(statement, names)
                    if isinstance(wanted, tuple) and wanted[1] is None:
                        # The document tells the class alone.
                        outcome = (outcome[0], None)
                    self.assertEqual(outcome, wanted)
        self.assertEqual(many, 178)
        self.assertEqual(sorted(SECTIONS), sorted(path.stem for path in FOLDER.glob("*.txt")))


if __name__ == "__main__":
    unittest.main()
