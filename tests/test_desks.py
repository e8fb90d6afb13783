import random
import unittest

from baysout.desks import Desk
from baysout.errors import BadFilm, BadMouth, BadNumber, BadText, FenceError, Misfit, NoName, TooMany, Twice
from baysout.fences import Fence
from baysout.headlands import headlands
from baysout.makes import comb, spiral, stairs
from baysout.mouths import mouths_of
from baysout.words import word_of
from tests.makers import NOTCH, RULED, SQUARE, TUB, Case, comb_corners, points_on_sides, slanted, spiral_corners
from tests.slow_desk import DEEDS, SlowDesk, wrong_item

NO_STRINGS = (None, True, False, 0, 7, 1.0, b"undo", ["undo"], ("undo",), {}, set(), object(), Fence(SQUARE), [])
NOTCH_TEXT = "0 0 / 4 0 / 4 4 / 2 2 / 0 4"
# One of each kind, all that can be done one behind another.
LINES = (
    "new a " + NOTCH_TEXT, "word b fflfflfflff", "copy c a", "out a 2 4", "in a 1 3", "put c 0 2 0", "drop c 1",
    "begin c 3", "corners a", "where a 2 -3", "mouths c", "lifts a", "most c", "end c", "alike a c", "undo", "redo",
    "forget b",
)
BENT_ITEMS = (
    "", "-", "/", "|", "a", "A", "aB", "1a", "a_b", "a-b", "abcdefghijkl", "abcdefghijklm", "0", "00", "-0", "07", "+7",
    "7", "399", "400", "-1", "1.0", "0x1", "1_0", "1e3", "f", "flr", "flR", "fls", "new", "New", "undo", "undo\n", "\u0661",
    "\u00b2", "9" * 140, "9" * 141, "-" + "9" * 140, "-" + "9" * 141, "f" * 2000, "f" * 2001, "\u00e9", "a\t", "a\u00e9",
)


def desk_with(*lines):
    desk = Desk()
    for line in lines:
        desk.tell(line)
    return desk


def outcome_of(desk, line):
    """What a desk answers to a line, or the class and the fields of what it raises."""
    try:
        return desk.tell(line)
    except FenceError as error:
        return (type(error), tuple(vars(error).values()))


def bent_lines(line, numbers):
    """Lines beside a line: items left out, put in, doubled, exchanged, changed at each place."""
    items, bent = line.split(" "), []
    for at in range(len(items)):
        bent.append(items[:at] + items[at + 1:])
        bent.append(items[:at] + items[at:at + 1] + items[at:])
        bent.append(items[:at])
        for other in range(at):
            more = list(items)
            more[at], more[other] = more[other], more[at]
            bent.append(more)
        for item in BENT_ITEMS:
            bent.append(items[:at] + [item] + items[at + 1:])
        bent += [items[:at] + [item] + items[at:] for item in ("", "0", "a", "/")]
    for item in BENT_ITEMS:
        bent.append(items + [item])
        bent.append(items + [item, item])
    rows = [" ".join(row) for row in bent] + [line + " ", " " + line, line.replace(" ", "  ", 1), line.replace(" ", "\t"),
                                              line + "\n", line.upper(), line.replace(" ", "")]
    numbers.shuffle(rows)
    return rows


def drawn_line(fences, numbers):
    """A line that can often be done where these fences are kept, and sometimes not."""
    names = ("a", "b", "c1", "dd")
    kept = sorted(fences)
    word = numbers.choice(DEEDS[:3] + DEEDS + ("undo", "undo", "redo", "redo", "corners", "where", "mouths", "lifts",
                                               "most", "end", "alike"))
    name = numbers.choice(kept) if kept and numbers.random() < 0.8 else numbers.choice(names)
    fence = fences.get(name, Fence(NOTCH))
    if word == "new":
        row = numbers.choice((NOTCH, SQUARE, TUB, RULED, stairs(3).corners, comb(2, 2).corners))
        return f"new {numbers.choice(names)} {Fence(row)}"
    if word == "word":
        return f"word {numbers.choice(names)} {numbers.choice(('flflflf', 'fflfflfflff', 'lffrfl', word_of(stairs(2))))}"
    if word == "copy":
        return f"copy {numbers.choice(names)} {numbers.choice(names)}"
    pairs = {"out": mouths_of(fence), "in": headlands(fence) if fence.many < 11 else ()}.get(word, ())
    if word in ("out", "in"):
        p, q = numbers.choice(pairs) if pairs and numbers.random() < 0.9 else (numbers.randrange(9), numbers.randrange(9))
        return f"{word} {name} {p} {q}"
    if word == "put":
        spots = points_on_sides(fence)
        at, x, y = numbers.choice(spots) if spots and numbers.random() < 0.9 else (numbers.randrange(12), 1, -1)
        return f"put {name} {at} {x} {y}"
    if word in ("drop", "begin"):
        return f"{word} {name} {numbers.randrange(fence.many + 1)}"
    if word == "where":
        return f"where {name} {numbers.randint(-2, 6)} {numbers.randint(-2, 6)}"
    if word == "alike":
        return f"alike {name} {numbers.choice(kept or names)}"
    return word if word in ("undo", "redo") else f"{word} {name}"


class Lines(Case):
    def test_right_lines(self):
        desk, slow = Desk(), SlowDesk()
        for line in LINES:
            self.assertIsNone(wrong_item(line))
            answer = desk.tell(line)
            self.assertEqual(answer, slow.tell(line))
            self.assertIs(type(answer), str)

    def test_each_place(self):
        numbers, seen = random.Random(51), set()
        for line in LINES:
            # On an empty desk, and on one that keeps all names already: BadText comes ahead of Twice and NoName.
            for desk in (Desk(), desk_with(*LINES[:3])):
                for bent in bent_lines(line, numbers):
                    wrong = wrong_item(bent)
                    if wrong is not None:
                        self.raises(BadText, (0, wrong), desk.tell, bent)
                        seen.add((line.split(" ")[0], min(wrong, 16)))
        # Each item of each line was wrong once, and the one behind its last one.
        for line in LINES:
            items = line.split(" ")
            self.assertLessEqual({(items[0], at) for at in range(1, min(len(items), 15) + 1)}, seen)

    def test_by_hand(self):
        for line, item in (
            ("", 0), ("tell", 0), ("new", 1), ("new a", 2), ("new A 0 0", 1), ("new a 0", 3), ("new a 0 0", 4),
            ("new a 0 0 /", 5), ("new a 0 0 / 1 0 / 1", 9), ("new a 0 0 / 1 0", 7), ("new a 0 0 / 1 0 / 1 1 /", 11),
            ("new a 0 0 / 1 0 / 1 1 / 2", 12), ("new a 0 0 / 1 0 / 2 0", 9), ("new a 0 0 / 0 1 / 1 0", 9),
            ("new a 0 0 / 1 0 | 1 1", 7), ("new a 0 0 / 1 x / 0 0", 6), ("word a", 2), ("word a f f", 3), ("word a F", 2),
            ("copy a", 2), ("copy a b c", 3), ("out a", 2), ("out a 1", 3), ("out a 400 1", 2), ("out a 1 -1", 3),
            ("out a 1 2 3", 4), ("undo 1", 1), ("undo ", 1), ("redo a", 1), (" undo", 0), ("undo  ", 1), ("Undo", 0),
            ("where a 0", 3), ("put a 1 2", 4), ("put a 400 1 2", 2), ("drop a", 2), ("begin a", 2), ("forget", 1),
            ("forget a b", 2), ("alike a", 2), ("alike a 1", 2), ("mouths", 1), ("lifts a a", 2), ("end ", 1),
        ):
            self.assertEqual(wrong_item(line), item, line)
            for desk in (Desk(), desk_with("new a " + NOTCH_TEXT)):
                self.raises(BadText, (0, item), desk.tell, line)
                self.raises(BadText, (0, item), desk.tell, line=line)

    def test_no_strings(self):
        for value in NO_STRINGS:
            self.raises(BadText, (0, 0), Desk().tell, value)

    def test_names(self):
        for name in tuple("abcdefghijklmnopqrstuvwxyz") + ("a0", "z9", "a23456789", "mnopqrstuvwx", "abcdefghijkl", "a12345678901", "new", "undo", "f"):
            desk = desk_with(f"new {name} 0 0 / 1 0 / 0 1")
            self.assertEqual([desk.names(), desk.tell(f"forget {name}"), desk.names()], [(name,), name, ()])
        for name in ("", "0", "0a", "9abc", "A", "aB", "abcdefghijklm", "a_", "a-b", "-", "/", "a.b", "\u00e9", "a\u0660",
                     "a\n"):
            desk = desk_with("new a 0 0 / 1 0 / 0 1")
            for line, item in ((f"new {name} 0 0 / 1 0 / 0 1", 1), (f"word {name} flflflf", 1), (f"copy {name} a", 1),
                               (f"copy b {name}", 2), (f"out {name} 1 2", 1), (f"forget {name}", 1),
                               (f"alike {name} a", 1), (f"alike a {name}", 2), (f"corners {name}", 1)):
                self.raises(BadText, (0, item), desk.tell, line)

    def test_bounds_of_numbers(self):
        desk = desk_with("new a " + NOTCH_TEXT)
        for number in ("5", "399"):
            self.raises(BadMouth, ("mouth",), desk.tell, f"out a {number} 2")
            self.raises(BadMouth, ("mouth",), desk.tell, f"out a 2 {number}")
            self.raises(BadMouth, ("pair",), desk.tell, f"in a 2 {number}")
            self.raises(BadNumber, ("at",), desk.tell, f"put a {number} 1 1")
            self.raises(BadNumber, ("at",), desk.tell, f"drop a {number}")
            self.raises(BadNumber, ("at",), desk.tell, f"begin a {number}")
        for number in ("400", "-1", "1000", "9" * 140, "01", "-0", ""):
            for line, item in (("out a {} 4", 2), ("out a 2 {}", 3), ("in a {} 4", 2), ("in a 2 {}", 3), ("put a {} 1 1", 2),
                               ("drop a {}", 2), ("begin a {}", 2)):
                self.raises(BadText, (0, item), desk.tell, line.format(number))
        far, more = "9" * 140, "9" * 141
        for sign in ("", "-"):
            self.assertEqual(desk.tell(f"where a {sign}{far} 0"), "off")
            self.assertEqual(desk.tell(f"where a 0 {sign}{far}"), "off")
            self.raises(Misfit, ("point",), desk.tell, f"put a 0 {sign}{far} {sign}{far}")
            for line, item in (("where a {} 0", 2), ("where a 0 {}", 3), ("put a 0 {} 0", 3), ("put a 0 0 {}", 4)):
                self.raises(BadText, (0, item), desk.tell, line.format(sign + more))
            self.raises(BadText, (0, 9), desk.tell, f"new a 0 0 / 1 0 / 0 {sign}{more}")
        self.assertEqual(desk.tell(f"new b 0 0 / {far} 0 / 0 {far}"), "3")
        self.assertEqual(desk.tell(f"new c 0 0 / {far} 0 / {far} {far} / 1 1 / 0 {far}"), "5")
        # Numbers of answers may be longer.
        told = desk.tell("out c 2 4")
        self.assertEqual(told, str(desk.fence("c").area2))
        self.assertEqual(len(told), 281)

    def test_bounds_of_words(self):
        square = "l".join(["f" * 499] * 4)
        self.assertEqual(desk_with(f"word a {square}l").tell("corners a"), "0 0 / 499 0 / 499 499 / 0 499")
        self.raises(BadText, (0, 2), Desk().tell, f"word a {square}lr")
        self.raises(BadText, (0, 2), Desk().tell, "word a " + "f" * 2001)
        self.raises(Misfit, ("word",), Desk().tell, "word a " + "f" * 2000)

    def test_400_corners(self):
        row = comb_corners(400, 5)
        desk = Desk()
        self.assertEqual(desk.tell("new a " + " / ".join(f"{x} {y}" for x, y in row)), "400")
        self.raises(TooMany, ("corners", 400), desk.tell, "put a 0 1 0")
        self.raises(Misfit, ("point",), desk.tell, "put a 0 1 1")
        text = " / ".join(f"{x} {y}" for x, y in row + [(0, 3)])
        self.raises(BadText, (0, 2 + 1199), desk.tell, "new a " + text)


class Errors(Case):
    def unchanged(self, desk, error, fields, line):
        """Checks that a line raises this error, and leaves all as it was."""
        twin = desk.twin()
        self.raises(error, fields, desk.tell, line)
        self.assertTrue(desk == twin)
        self.assertEqual([desk.names(), desk.lines()], [twin.names(), twin.lines()])
        for name in desk.names():
            self.assertTrue(desk.fence(name) == twin.fence(name))
        for word in ("undo", "redo"):
            self.assertEqual(outcome_of(desk.twin(), word), outcome_of(twin.twin(), word))

    def test_twice_ahead_of_no_name(self):
        desk = desk_with("new a " + NOTCH_TEXT, "new b 0 0 / 1 0 / 0 1", "begin a 1", "undo")
        self.unchanged(desk, Twice, ("a",), "new a 0 0 / 1 0 / 0 1")
        self.unchanged(desk, Twice, ("b",), "word b flflflf")
        # The word has no fence, the other name is not kept.
        self.unchanged(desk, Twice, ("b",), "word b fffff")
        self.unchanged(desk, Twice, ("b",), "copy b a")
        self.unchanged(desk, Twice, ("b",), "copy b none")
        self.unchanged(desk, Twice, ("b",), "copy b b")
        self.unchanged(desk, NoName, ("none",), "copy c none")
        self.unchanged(desk, NoName, ("c",), "copy c c")

    def test_no_names(self):
        desk = desk_with("new a " + NOTCH_TEXT)
        for line in ("out c 2 4", "in c 2 4", "put c 0 1 0", "drop c 0", "begin c 0", "forget c", "corners c", "where c 0 0",
                     "mouths c", "lifts c", "most c", "end c", "alike c a", "alike a c", "alike c d", "out c 399 399"):
            self.unchanged(desk, NoName, ("c",), line)
        self.unchanged(desk, NoName, ("d",), "alike d c")
        desk.tell("forget a")
        self.unchanged(desk, NoName, ("a",), "corners a")
        desk.tell("undo")
        self.assertEqual(desk.tell("corners a"), NOTCH_TEXT)

    def test_what_functions_raise(self):
        desk = desk_with("new a " + NOTCH_TEXT, "put a 0 2 0", "undo")
        for error, fields, line in (
            (BadMouth, ("mouth",), "out a 0 1"), (BadMouth, ("mouth",), "out a 4 2"), (BadMouth, ("mouth",), "out a 2 2"),
            (BadMouth, ("pair",), "in a 2 4"), (BadMouth, ("pair",), "in a 399 0"), (BadMouth, ("pair",), "in a 3 3"),
            (BadNumber, ("at",), "put a 5 0 1"), (Misfit, ("point",), "put a 0 0 0"), (Misfit, ("point",), "put a 0 4 0"),
            (Misfit, ("point",), "put a 0 5 0"), (Misfit, ("point",), "put a 1 2 0"), (BadNumber, ("at",), "drop a 5"),
            (Misfit, ("at",), "drop a 0"), (Misfit, ("at",), "drop a 3"), (BadNumber, ("at",), "begin a 5"),
            (Misfit, ("word",), "word b f"), (Misfit, ("word",), "word b ffrffrffrff"), (Misfit, ("word",), "word b lr"),
        ):
            self.unchanged(desk, error, fields, line)

    def test_undo_and_redo_of_none(self):
        self.unchanged(Desk(), Misfit, ("undo",), "undo")
        self.unchanged(Desk(), Misfit, ("redo",), "redo")
        desk = desk_with("new a " + NOTCH_TEXT)
        self.unchanged(desk, Misfit, ("redo",), "redo")
        desk.tell("undo")
        self.raises(Misfit, ("undo",), desk.tell, "undo")
        self.assertEqual(desk.tell("redo"), "new a " + NOTCH_TEXT)
        self.raises(Misfit, ("redo",), desk.tell, "redo")
        desk.tell("undo")
        desk.tell("new b 0 0 / 1 0 / 0 1")
        self.raises(Misfit, ("redo",), desk.tell, "redo")

    def test_200_deeds(self):
        desk = desk_with("new a " + NOTCH_TEXT, *[f"begin a {at % 5}" for at in range(199)])
        self.assertEqual(len(desk.lines()), 200)
        before = desk.tell("corners a")
        for line in ("begin a 0", "copy b a", "forget a", "out a " + desk.tell("mouths a"), "word c flflflf",
                     "new d 0 0 / 1 0 / 0 1"):
            self.unchanged(desk, TooMany, ("lines", 200), line)
        # All other errors come ahead of it; asks are no deeds.
        self.unchanged(desk, Twice, ("a",), "copy a none")
        self.unchanged(desk, NoName, ("none",), "copy b none")
        self.unchanged(desk, Misfit, ("word",), "word b f")
        self.unchanged(desk, BadNumber, ("at",), "begin a 5")
        self.unchanged(desk, BadText, (0, 2), "begin a x")
        self.unchanged(desk, Misfit, ("redo",), "redo")
        self.assertEqual([desk.tell("corners a"), desk.tell("most a"), desk.tell("alike a a")], [before, "1", "yes"])
        self.assertEqual(desk.tell("undo"), "begin a 3")
        self.assertEqual(desk.tell("redo"), "begin a 3")
        self.unchanged(desk, TooMany, ("lines", 200), "begin a 0")
        self.assertEqual([desk.tell("undo") for _ in range(3)], ["begin a 3", "begin a 2", "begin a 1"])
        self.assertEqual([desk.tell(f"begin a {at}") != "" for at in (4, 4, 4)], [True] * 3)
        self.unchanged(desk, TooMany, ("lines", 200), "begin a 0")


class Sessions(Case):
    def test_against_a_slow_desk(self):
        numbers, seen = random.Random(52), set()
        for _ in range(40):
            desk, slow = Desk(), SlowDesk()
            for _ in range(60):
                line = drawn_line(slow.kept(), numbers)
                told = outcome_of(slow, line)
                self.assertEqual(outcome_of(desk, line), told, line)
                seen.add((line.split(" ")[0], told[0] if isinstance(told, tuple) else None))
                self.assertEqual(desk.lines(), tuple(slow.standing))
            kept = slow.kept()
            self.assertEqual(desk.names(), tuple(sorted(kept)))
            for name in kept:
                self.assertTrue(desk.fence(name) == kept[name])
        for word in DEEDS + ("undo", "redo", "corners", "where", "mouths", "lifts", "most", "end", "alike"):
            self.assertIn((word, None), seen)

    def test_no_mouths(self):
        desk = desk_with("new a 0 0 / 4 0 / 4 4", "new b 0 0 / 2 1 / 4 0 / 4 4 / 2 3 / 0 4")
        self.assertEqual([desk.tell("mouths a"), desk.tell("mouths b")], ["-", "0 2 / 3 5"])
        self.assertEqual([desk.tell("lifts a"), desk.tell("most b"), desk.tell("most a")],
                         ["0 1 0 / 0 0 1 / 0 -1 -1", "2", "0"])

    def test_undo_and_redo_over_many(self):
        lines = [line for line in LINES if line.split(" ")[0] in DEEDS]
        desk = desk_with(*lines)
        texts = []
        for line in lines[::-1]:
            texts.append({name: str(desk.fence(name)) for name in desk.names()})
            self.assertEqual(desk.tell("undo"), line)
        self.assertEqual([desk.names(), desk.lines()], [(), ()])
        for at, line in enumerate(lines):
            self.assertEqual(desk.tell("redo"), line)
            self.assertEqual(desk.lines(), tuple(lines[:at + 1]))
            self.assertEqual({name: str(desk.fence(name)) for name in desk.names()}, texts[-1 - at])


class Desks(Case):
    def test_names_and_fences(self):
        desk = desk_with("new b 0 0 / 1 0 / 0 1", "copy a b", "copy c10 b", "copy c9 b")
        self.assertEqual([desk.names(), Desk().names(), Desk().lines()], [("a", "b", "c10", "c9"), (), ()])
        self.assertIs(type(desk.fence("a")), Fence)
        self.assertTrue(desk.fence(name="b") == Fence(((0, 0), (1, 0), (0, 1))))
        for value in ("", "c", "A", "a ", "none") + NO_STRINGS + ({1: 2}, [["a"]], ("a",), ["a"]):
            self.raises(NoName, (value,), desk.fence, value)

    def test_twins(self):
        desk = desk_with("new a " + NOTCH_TEXT, "out a 2 4", "begin a 2", "undo", "undo")
        twin = desk.twin()
        self.assertIsNot(twin, desk)
        self.assertIs(type(twin), Desk)
        self.assertTrue(twin == desk)
        self.assertEqual([twin.tell("redo"), twin.tell("redo")], ["out a 2 4", "begin a 2"])
        self.assertFalse(twin == desk)
        self.assertEqual([desk.lines(), desk.tell("corners a")], [("new a " + NOTCH_TEXT,), NOTCH_TEXT])
        self.assertEqual(twin.tell("corners a"), "4 4 / 2 6 / 0 4 / 0 0 / 4 0")
        self.assertEqual([desk.tell("redo"), desk.tell("redo")], ["out a 2 4", "begin a 2"])
        self.assertTrue(twin == desk)
        desk.tell("forget a")
        self.assertEqual([twin.names(), desk.names()], [("a",), ()])
        desk.tell("undo")
        self.assertFalse(twin == desk)
        twin.tell("copy b a")
        self.assertEqual([twin.names(), desk.names(), desk.tell("redo")], [("a", "b"), ("a",), "forget a"])

    def test_equal(self):
        lines = ("new a " + NOTCH_TEXT, "begin a 1", "begin a 1")
        one, other = desk_with(*lines), desk_with(*lines)
        self.assertTrue(one == other)
        # The same fences by other deeds, and in another order.
        self.assertFalse(desk_with(lines[0], "begin a 2") == one)
        self.assertFalse(desk_with("new b " + NOTCH_TEXT) == desk_with(lines[0]))
        self.assertFalse(desk_with(lines[0], "copy b a") == desk_with(lines[0], "copy c a"))
        for ask in ("corners a", "mouths a", "where a 1 1", "most a"):
            other.tell(ask)
        self.assertTrue(one == other)
        other.tell("undo")
        self.assertFalse(one == other)
        self.assertFalse(desk_with(*lines[:2]) == other)
        one.tell("undo")
        self.assertTrue(one == other)
        first = desk_with(lines[0], "begin a 1", "begin a 2", "undo", "undo")
        second = desk_with(lines[0], "begin a 2", "begin a 1", "undo", "undo")
        self.assertFalse(first == second)
        first.tell("out a 2 4")
        second.tell("out a 2 4")
        self.assertTrue(first == second)
        self.assertTrue(Desk() == Desk())
        for value in (None, True, 0, (), [], "", (lines[0],), Fence(NOTCH), Desk):
            self.assertIs(Desk() == value, False)
            self.assertIs(one == value, False)
            self.assertIs(one != value, True)


class Read(Case):
    def test_lines_that_stand(self):
        numbers = random.Random(53)
        for _ in range(10):
            desk, lines = Desk(), []
            for _ in range(40):
                line = drawn_line({name: desk.fence(name) for name in desk.names()}, numbers)
                if isinstance(outcome_of(desk, line), str):
                    lines.append(line)
            # All that was told, asks and undo among it; and the deeds that stand alone.
            self.assertTrue(Desk.read(lines) == desk)
            self.assertTrue(desk.read(tuple(lines)) == desk)
            other = Desk.read(lines=desk.lines())
            self.assertEqual([other.lines(), other.names()], [desk.lines(), desk.names()])
        self.assertTrue(Desk.read([]) == Desk())
        self.assertTrue(Desk.read(()) == Desk())

    def test_no_lists(self):
        for value in (None, True, 0, "", "undo", b"", {}, {"undo"}, {"undo": 1}, object(), iter([]), range(0), Desk(),
                      ["undo", None], ("corners a", 5), [["undo"]], [b"undo"], [("undo",)], [None], ["x", True]):
            self.raises(BadFilm, ("lines",), Desk.read, value)

    def test_a_line_that_raises(self):
        right = ["new a " + NOTCH_TEXT, "copy b a", "out a 2 4", "mouths a", "undo", "redo", "undo", "put b 0 2 0"]
        wrong = (
            ("", BadText, (0, 0)), ("out a 2", BadText, (0, 3)), ("copy a none", Twice, ("a",)),
            ("alike c d", NoName, ("c",)), ("out b 0 1", BadMouth, ("mouth",)), ("in b 2 4", BadMouth, ("pair",)),
            ("begin a 30", BadNumber, ("at",)), ("drop a 3", Misfit, ("at",)), ("put a 1 1 1", Misfit, ("point",)),
            ("word c f", Misfit, ("word",)),
        )
        for at in range(2, len(right) + 1):
            for line, error, fields in wrong:
                self.raises_line(at, error, fields, Desk.read, right[:at] + [line] + right[at:])
                # The first one is told.
                self.raises_line(at, error, fields, Desk.read, (*right[:at], line, "x", "copy a none"))
        self.raises_line(0, Misfit, ("undo",), Desk.read, ["undo"])
        self.raises_line(0, Misfit, ("redo",), Desk.read, ["redo"])
        self.raises_line(1, Misfit, ("redo",), Desk.read, ["new a " + NOTCH_TEXT, "redo", "undo"])
        many = ["new a " + NOTCH_TEXT] + ["begin a 1"] * 199
        self.assertEqual(len(Desk.read(many).lines()), 200)
        self.raises_line(200, TooMany, ("lines", 200), Desk.read, many + ["begin a 1"])
        self.assertEqual(len(Desk.read(many + ["undo", "begin a 1", "most a"]).lines()), 200)
        full = "new b " + " / ".join(f"{x} {y}" for x, y in comb_corners(400, 5))
        self.raises_line(1, TooMany, ("corners", 400), Desk.read, [full, "put b 0 1 0"])


class Times(Case):
    def test_short_time(self):
        for fence in (comb(25, 10 ** 6), spiral(49), Fence(slanted(spiral_corners(49), 10 ** 4))):
            lines = [f"new a {fence}"]
            many = fence.many
            lines += [f"begin a {at % many}" for at in range(30)]
            lines += [f"copy b{at} a" for at in range(30)]
            desk = self.is_short(Desk.read, lines)
            while len(desk.lines()) < 200:
                p, q = mouths_of(desk.fence("a"))[0] if desk.tell("mouths a") != "-" else (None, None)
                line = f"out a {p} {q}" if p is not None else "begin a 1"
                self.is_short(desk.tell, line)
            for ask in ("corners a", "mouths a", "lifts b1", "most b1", "end b1", "alike a b1", "where a 0 0"):
                self.is_short(desk.tell, ask)
            other = self.is_short(Desk.read, desk.lines())
            self.assertTrue(self.is_short(lambda: other == desk))
            twin = self.is_short(other.twin)
            for word in ("undo", "redo"):
                for _ in range(200):
                    self.is_short(twin.tell, word)
            self.assertTrue(twin == desk)


if __name__ == "__main__":
    unittest.main()
