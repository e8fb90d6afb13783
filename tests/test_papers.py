import unittest

from baysout.papers import Denial, Paper, fixed


class Papers(unittest.TestCase):
    def test_word_and_parts(self):
        for word in ("note", "", None, 5, True, ("a", 1), b"x"):
            for made in (Paper(word, 1, [2]), Denial(word, 1, [2])):
                self.assertEqual((made.word, made.parts), (word, (1, (2,))))
        self.assertEqual((Paper("note").parts, Denial("no").parts), ((), ()))
        self.assertEqual((Paper(word="note").word, Denial(word="no").word), ("note", "no"))

    def test_parts_are_fixed_all_the_way_in(self):
        held = object()
        note = Paper("note", [1, [2, (3, [4])]], None, {"a": [1]}, held, "text", [[[]]])
        self.assertEqual(note.parts, ((1, (2, (3, (4,)))), None, {"a": [1]}, held, "text", (((),),)))
        self.assertIs(type(note.parts), tuple)
        self.assertIs(note.parts[3], held)

    def test_what_was_passed_is_not_held_on_to(self):
        for kind in (Paper, Denial):
            inner = [1, 2]
            row, word = [inner, (inner,)], ["w"]
            note = kind(word, row)
            inner.append(3)
            row.append(4)
            word.append("x")
            self.assertEqual((note.word, note.parts), (("w",), (((1, 2), ((1, 2),)),)))
            self.assertEqual((row, word), ([[1, 2, 3], ([1, 2, 3],), 4], ["w", "x"]))

    def test_truth(self):
        for parts in ((), (0,), (None, [])):
            self.assertIs(bool(Paper("note", *parts)), True)
            self.assertIs(bool(Denial("no", *parts)), False)
        self.assertTrue(issubclass(Denial, Paper))

    def test_equal_by_class_word_and_parts(self):
        self.assertTrue(Paper("note", [1, [2]]) == Paper("note", (1, (2,))))
        self.assertTrue(Denial("no", [1]) == Denial("no", (1,)))
        self.assertFalse(Paper("note", 1) != Paper("note", 1))
        self.assertTrue(Paper("note", 1) == Paper("note", True))
        for one, other in (
            (Paper("note", 1), Paper("other", 1)), (Paper("note", 1), Paper("note", 2)),
            (Paper("note", 1), Paper("note", 1, 1)), (Paper("note", 1), Paper("note")),
            (Paper("note", 1), Denial("note", 1)), (Denial("note", 1), Paper("note", 1)),
            (Denial("no", 1), Denial("no", 2)), (Denial("no"), Denial("none")),
            (Paper("note"), "note"), (Paper("note"), ("note", ())), (Paper("note"), None), (Paper("note"), True),
            (Denial("no"), False), (Denial("no"), None), (None, Denial("no")), ([], Denial("no")),
        ):
            self.assertIs(one == other, False)
            self.assertIs(one != other, True)

    def test_classes_below_are_unlike(self):
        class Ended(Paper):
            def __init__(self, field):
                Paper.__init__(self, "ended", field)
                self.field = self.parts[0]

        class Second(Denial):
            def __init__(self):
                Denial.__init__(self, "second")

        self.assertEqual(Ended([1]).field, (1,))
        self.assertTrue(Ended([1]) == Ended((1,)))
        for one, other in ((Ended([1]), Paper("ended", [1])), (Second(), Denial("second")), (Second(), Ended([]))):
            self.assertIs(one == other, False)
            self.assertIs(other == one, False)
        self.assertEqual((bool(Ended([])), bool(Second())), (True, False))

    def test_fixed(self):
        held, table = object(), {"a": [1]}
        for value, told in (
            ([], ()), ((), ()), ([[]], ((),)), ([1, (2, [3])], (1, (2, (3,)))), (5, 5), ("ab", "ab"), (None, None),
            (b"ab", b"ab"), (True, True), ((1, [None, ["x"]]), (1, (None, ("x",)))),
        ):
            self.assertEqual(fixed(value), told)
            self.assertIs(type(fixed(value)), type(told))
        self.assertIs(fixed(held), held)
        self.assertIs(fixed(table), table)
        self.assertIs(fixed(value=[table])[0], table)
        deep = told = 1
        for _ in range(30):
            deep, told = [deep], (told,)
        self.assertEqual(fixed(deep), told)

    def test_fixed_changes_nothing(self):
        row = [1, [2, [3]]]
        fixed(row)
        self.assertEqual(row, [1, [2, [3]]])


if __name__ == "__main__":
    unittest.main()
