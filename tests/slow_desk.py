"""A desk in a slow way: all deeds that stand are done again, from an empty one, for each line."""

import re

from baysout.changed import begun, with_corner, without_corner
from baysout.counts import at_most
from baysout.ends import end_of
from baysout.errors import BadFence, BadText, Misfit, NoName, TooMany, Twice
from baysout.fences import Fence, where
from baysout.headlands import turned_in
from baysout.lifts import lifts_of
from baysout.mouths import first_mouths
from baysout.turnings import turned_out
from baysout.words import fence_of

NAME = "[a-z][a-z0-9]{0,11}"
NUMBER = "0|[1-9][0-9]?|[123][0-9][0-9]"
INTEGER = "0|-?[1-9][0-9]{0,139}"
LETTERS = "[flr]{1,2000}"
FORMS = {
    "new": [NAME], "word": [NAME, LETTERS], "copy": [NAME, NAME], "out": [NAME, NUMBER, NUMBER],
    "in": [NAME, NUMBER, NUMBER], "put": [NAME, NUMBER, INTEGER, INTEGER], "drop": [NAME, NUMBER],
    "begin": [NAME, NUMBER], "forget": [NAME], "corners": [NAME], "where": [NAME, INTEGER, INTEGER], "mouths": [NAME],
    "lifts": [NAME], "most": [NAME], "end": [NAME], "alike": [NAME, NAME], "undo": [], "redo": [],
}
DEEDS = ("new", "word", "copy", "out", "in", "put", "drop", "begin", "forget")


def form_at(word, at):
    """The form of item number at of a line, None if there is none."""
    if at <= len(FORMS[word]):
        return FORMS[word][at - 1]
    if word != "new" or at >= 2 + 1199:
        return None
    return (INTEGER, INTEGER, "/")[(at - 2) % 3]


def wrong_item(line):
    """The number of the first item of a line that cannot stand, None if all can."""
    if not isinstance(line, str):
        return 0
    items = line.split(" ")
    if items[0] not in FORMS:
        return 0
    for at in range(1, len(items)):
        form = form_at(items[0], at)
        if form is None or not re.fullmatch(form, items[at], re.ASCII):
            return at
    if items[0] != "new":
        return len(items) if len(items) <= len(FORMS[items[0]]) else None
    if len(items) < 2 + 8 or len(items) % 3 != 1:
        return len(items)
    try:
        Fence([(int(items[at]), int(items[at + 1])) for at in range(2, len(items), 3)])
    except BadFence:
        return len(items) - 1
    return None


def in_rows(rows):
    return " / ".join(" ".join(str(number) for number in row) for row in rows) or "-"


class SlowDesk:
    """Keeps the lines of deeds alone."""

    def __init__(self):
        self.standing, self.back = [], []

    def kept(self):
        fences = {}
        for line in self.standing:
            do(fences, line)
        return fences

    def tell(self, line):
        wrong = wrong_item(line)
        if wrong is not None:
            raise BadText(0, wrong)
        word, *more = line.split(" ")
        if word in ("undo", "redo"):
            origin, aim = (self.standing, self.back) if word == "undo" else (self.back, self.standing)
            if not origin:
                raise Misfit(word)
            aim.append(origin.pop())
            return aim[-1]
        fences = self.kept()
        if word in ("new", "word", "copy") and more[0] in fences:
            raise Twice(more[0])
        for name in {"new": [], "word": [], "copy": more[1:2], "alike": more}.get(word, more[:1]):
            if name not in fences:
                raise NoName(name)
        if word not in DEEDS:
            return ask(fences, word, more)
        answer = do(fences, line)
        if len(self.standing) == 200:
            raise TooMany("lines", 200)
        self.standing.append(line)
        self.back.clear()
        return answer


def do(fences, line):
    """Does a deed that has no wrong item and no wrong name; returns what it answers."""
    word, name, *more = line.split(" ")
    if word == "forget":
        del fences[name]
        return name
    if word == "new":
        fences[name] = Fence.read(" ".join(more))
    elif word == "word":
        fences[name] = fence_of(more[0])
    elif word == "copy":
        fences[name] = fences[more[0]]
    elif word in ("out", "in"):
        fences[name] = {"out": turned_out, "in": turned_in}[word](fences[name], (int(more[0]), int(more[1])))
        return str(fences[name].area2)
    elif word == "put":
        fences[name] = with_corner(fences[name], int(more[0]), (int(more[1]), int(more[2])))
    elif word == "drop":
        fences[name] = without_corner(fences[name], int(more[0]))
    else:
        fences[name] = begun(fences[name], int(more[0]))
        return in_rows([fences[name].corners[0]])
    return str(fences[name].many)


def ask(fences, word, more):
    """What an ask answers."""
    fence = fences[more[0]]
    if word == "where":
        return where(fence, (int(more[1]), int(more[2])))
    if word == "alike":
        return "yes" if end_of(fence) == end_of(fences[more[1]]) else "no"
    return {
        "corners": lambda: str(fence), "mouths": lambda: in_rows(first_mouths(fence)),
        "lifts": lambda: in_rows((rounds, x, y) for rounds, (x, y) in lifts_of(fence)),
        "most": lambda: str(at_most(fence)), "end": lambda: str(end_of(fence)),
    }[word]()
