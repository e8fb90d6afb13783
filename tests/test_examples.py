"""Every example of the document, as it stands there, one file a section in the folder examples.

Names stay as earlier sections made them last, as the document says. The example of lifts that
uses `stages` is left out until baysout/films.py is there; test_lifts.py tests what it tells.
"""

import ast
import pathlib
import unittest

import baysout.changed
import baysout.checks
import baysout.fences
import baysout.hulls
import baysout.lifts
import baysout.mouths
import baysout.papers
import baysout.points
import baysout.turnings

MODULES = (
    baysout.checks, baysout.papers, baysout.points, baysout.fences, baysout.changed,
    baysout.hulls, baysout.mouths, baysout.turnings, baysout.lifts,
)
FOLDER = pathlib.Path(__file__).parent / "examples"


def examples_of(text):
    """Pairs of a statement and the line that is told for it, None for none."""
    lines = text.splitlines()
    for at, line in enumerate(lines):
        if line.startswith(">>> "):
            told = lines[at + 1] if at + 1 < len(lines) else ">>> "
            yield line[4:], None if told.startswith(">>> ") else told


def outcome_of(statement, names):
    """What a statement returns, as repr, or the class and the fields of what it raises."""
    try:
        try:
            return repr(eval(statement, names))
        except SyntaxError:
            exec(statement, names)
            return None
    except ValueError as error:
        return (error.__class__.__name__, tuple(vars(error).values()))


def wanted_of(told):
    """The outcome that a line of the document tells."""
    if told is None or not told.startswith("raises "):
        return told
    call = ast.parse(told[len("raises "):], mode="eval").body
    return (call.func.id, tuple(ast.literal_eval(field) for field in call.args))


class Examples(unittest.TestCase):
    def test_all(self):
        names, many = {}, 0
        for module in MODULES:
            names.update(vars(module))
        for module in MODULES:
            section = module.__name__.split(".")[1]
            for statement, told in examples_of((FOLDER / f"{section}.txt").read_text()):
                many += 1
                with self.subTest(section=section, statement=statement):
                    self.assertEqual(outcome_of(statement, names), wanted_of(told))
        self.assertEqual(many, 40)


if __name__ == "__main__":
    unittest.main()
