import random
import unittest

from baysout.changed import begun, grown, moved
from baysout.counts import bite
from baysout.errors import BadFilm, BadLine, BadMouth, BadText, TooMany
from baysout.fences import Fence
from baysout.films import film_of, film_out, film_text, played, stages
from baysout.hulls import covers, is_convex
from baysout.lifts import directions_of, to_and_fro
from baysout.mouths import bay_area2, first_mouths, mouths_of
from baysout.turnings import turned_out
from tests.makers import (
    GREAT, NO_POINTS, NOTCH, SQUARE, TUB, Case, comb_corners, fences_of_all_kinds, film_by,
    narrow_film, slanted, spiral_corners, swinging_corners,
)
from tests.oracles import is_fence_row

NO_PAIRS = NO_POINTS + (
    (1, 1), [0, 0], (399, 399), (-1, 2), (2, -1), (400, 2), (2, 400), (GREAT, 1), (1, -GREAT), (True, 2), (2, True),
    (2.0, 4), "24", "2 4", (2, 4, 6), (2,), ((2, 4),), {2: 3, 4: 5},
)
NO_FILMS = (None, True, False, 0, 7, 1.0, "", "-", "2 4", b"", {}, {(2, 4): 0}, {(2, 4)}, object(), (2, 4), [2, 4],
            iter([(2, 4)]), range(0))


def behind_all(fence, film):
    """All stages, turned out one by one."""
    told = [fence]
    for pair in film:
        told.append(turned_out(told[-1], pair))
    return told


class Played(Case):
    def no_mouth_at(self, at, fence, film):
        for function in (played, stages):
            with self.assertRaises(BadLine) as caught:
                function(fence, film)
            self.assertIs(type(caught.exception), BadLine)
            self.assertEqual(caught.exception.line, at)
            self.assertIs(type(caught.exception.error), BadMouth)
            self.assertEqual(vars(caught.exception.error), {"part": "mouth"})

    def test_any_mouths(self):
        numbers, over, other = random.Random(6), 0, 0
        for fence in fences_of_all_kinds():
            for choose in (mouths_of, mouths_of, first_mouths):
                film = film_by(fence, choose, numbers)
                told = behind_all(fence, film)
                self.assertEqual([stage.corners for stage in stages(fence, film)], [stage.corners for stage in told])
                for many in range(len(film) + 1):
                    self.assertTrue(played(fence, film[:many]) == told[many])
                self.assertIs(is_convex(told[-1]), True)
                over += any(p > q for p, q in film)
                other += any(film[at] not in first_mouths(told[at]) for at in range(len(film)))
        self.assertGreater(over, 50)
        self.assertGreater(other, 50)

    def test_facts_along_films(self):
        numbers = random.Random(19)
        for fence in fences_of_all_kinds():
            for choose in (mouths_of, first_mouths):
                film = film_by(fence, choose, numbers)
                told = stages(fence, film)
                for pair, stage, there in zip(film, told, told[1:]):
                    self.assertTrue(is_fence_row(there.corners))
                    self.assertEqual(there.area2, stage.area2 + 2 * bay_area2(stage, pair))
                    self.assertIs(covers(there, stage), True)
                    self.assertEqual(sorted(there.sides), sorted(fence.sides))
                    self.assertEqual([there.corners[at] for at in pair], [stage.corners[at] for at in pair])
                    self.assertEqual(bite(stage, pair), to_and_fro(stage) - to_and_fro(there))
                self.assertEqual(len({stage.corners for stage in told}), len(told))
                bites = [bite(stage, pair) for pair, stage in zip(film, told)]
                self.assertEqual(sum(bites), to_and_fro(fence) - len(directions_of(fence)))

    def test_none(self):
        for fence in (Fence(SQUARE), Fence(TUB)):
            for film in ((), []):
                self.assertTrue(played(fence, film) == fence)
                self.assertIsInstance(played(fence, film), Fence)
                self.assertTrue(stages(fence, film) == (fence,))

    def test_kinds(self):
        fence = Fence(TUB)
        for film in ([(3, 6), (2, 4), (5, 7)], ((3, 6), [2, 4], (5, 7)), [[3, 6], [2, 4], [5, 7]]):
            told = stages(film=film, fence=fence)
            self.assertIs(type(told), tuple)
            self.assertEqual([type(stage) for stage in told], [Fence] * 4)
            self.assertEqual([stage.area2 for stage in told], [56, 88, 104, 120])
            self.assertTrue(played(film=film, fence=fence) == told[-1])

    def test_nothing_is_changed(self):
        fence, film = Fence(TUB), [[3, 6], [2, 4]]
        told = stages(fence, film)
        played(fence, film)
        self.assertEqual(film, [[3, 6], [2, 4]])
        self.assertEqual(fence.corners, TUB)
        film[0][0] = 2
        self.assertTrue(told[1] == turned_out(fence, (3, 6)))

    def test_begun_moved_grown(self):
        numbers = random.Random(7)
        for fence in fences_of_all_kinds()[:40]:
            film = film_by(fence, mouths_of, numbers)
            last = played(fence, film)
            far = moved(grown(fence, GREAT), (GREAT, -7))
            self.assertTrue(played(far, film) == moved(grown(last, GREAT), (GREAT, -7)))
            for at in range(fence.many):
                pairs = [((p - at) % fence.many, (q - at) % fence.many) for p, q in film]
                self.assertTrue(played(begun(fence, at), pairs) == begun(last, at))

    def test_first_pair_that_is_no_mouth(self):
        numbers = random.Random(8)
        for fence in fences_of_all_kinds():
            film = film_by(fence, mouths_of, numbers)
            told = behind_all(fence, film)
            for at, stage in enumerate(told):
                wrong = [(p, q) for p in range(fence.many) for q in range(fence.many)
                         if p != q and (p, q) not in mouths_of(stage)]
                pair = numbers.choice(wrong)
                # What stands behind it does not matter.
                for behind in ([], film[at:], [numbers.choice(wrong)]):
                    self.no_mouth_at(at, fence, film[:at] + [pair] + behind)

    def test_numbers_beyond_the_corners(self):
        for pair in ((2, 399), (399, 2), (8, 0), (2, 8), [0, 399]):
            self.no_mouth_at(0, Fence(TUB), [pair])
            self.no_mouth_at(1, Fence(TUB), [(2, 6), pair])
        # A mouth that is turned out is none any more; a convex fence has none.
        self.no_mouth_at(1, Fence(NOTCH), [(2, 4), (2, 4)])
        self.no_mouth_at(0, Fence(SQUARE), [(0, 1)])

    def test_no_films(self):
        fence = Fence(TUB)
        for function in (played, stages):
            for film in NO_FILMS:
                self.raises(BadFilm, ("film",), function, fence, film)
            for pair in NO_PAIRS:
                for film in ([pair], (pair,), [(2, 6), pair], [(2, 4), pair, (4, 2)], [pair, (2, 6)]):
                    self.raises(BadFilm, ("film",), function, fence, film)

    def test_a_thousand_pairs(self):
        told, film = narrow_film()
        self.assertGreater(len(film), 1001)
        for many in (999, 1000):
            self.assertEqual(played(Fence(told[0]), film[:many]).corners, told[many])
        for function in (played, stages):
            for many in (1001, 1002, len(film)):
                self.raises(BadFilm, ("film",), function, Fence(told[0]), film[:many])
        self.no_mouth_at(0, Fence(SQUARE), [(0, 2)] * 1000)

    def test_fence_comes_first(self):
        for function in (played, stages):
            for film in ([(2, 4)], [], None, [(1, 1)]):
                self.no_fence_first(function, film)

    def test_short_time(self):
        for row in (comb_corners(100, 10 ** 5), slanted(comb_corners(100, 10 ** 5), 3), spiral_corners(49)):
            fence = Fence(row)
            film = film_out(fence)[:60]
            self.assertGreater(len(film), 40)
            self.is_short(played, fence, film)
            self.is_short(stages, fence, film)


class FilmOut(Case):
    def test_films_of_first_mouths_that_end(self):
        for fence in fences_of_all_kinds():
            film = film_out(fence)
            self.assertIs(type(film), tuple)
            self.assertEqual({type(pair) for pair in film} - {tuple}, set())
            there = fence
            for pair in film:
                self.assertIn(pair, first_mouths(there))
                there = turned_out(there, pair)
            self.assertEqual(mouths_of(there), ())
            self.assertLessEqual(2 * len(film), to_and_fro(fence) - len(directions_of(fence)))
            self.assertEqual(film_out(Fence(fence.corners)), film)

    def test_convex_and_other_ones(self):
        self.assertEqual(film_out(Fence(SQUARE)), ())
        self.assertEqual(film_out(fence=Fence(NOTCH)), ((2, 4),))
        self.assertEqual(film_out(begun(Fence(NOTCH), 3)), ((4, 1),))
        self.no_fence_first(film_out)

    def test_too_many_turnings(self):
        just = Fence(swinging_corners(8, 4))
        self.assertEqual(to_and_fro(just) - len(directions_of(just)), 2000)
        self.assertTrue(is_convex(played(just, film_out(just))))
        self.assertTrue(film_out(moved(just, (1, 1))) == film_out(just))
        for row, more in ((swinging_corners(3, 3), 2002), (swinging_corners(33, 1), 2112)):
            fence = Fence(row)
            self.assertEqual(to_and_fro(fence) - len(directions_of(fence)), more)
            self.raises(TooMany, ("turnings", 1000), film_out, fence)
            self.raises(TooMany, ("turnings", 1000), film_out, begun(fence, 30))

    def test_short_time(self):
        for row in (comb_corners(100, 10 ** 5), slanted(comb_corners(100, 10 ** 5), 3), spiral_corners(49),
                    comb_corners(400, 10 ** 5), spiral_corners(199), swinging_corners(8, 4)):
            self.is_short(film_out, Fence(row))


class Texts(Case):
    def test_there_and_back(self):
        numbers = random.Random(9)
        for many in (0, 1, 2, 3, 10, 60, 999, 1000):
            film = tuple(tuple(numbers.sample(range(400), 2)) for _ in range(many))
            text = film_text(film)
            self.assertEqual(text, " / ".join(f"{p} {q}" for p, q in film) or "-")
            self.assertEqual(film_text([list(pair) for pair in film]), text)
            told = film_of(text)
            self.assertEqual(told, film)
            self.assertIs(type(told), tuple)
            self.assertTrue(all(type(pair) is tuple for pair in told))
        self.assertEqual(film_text(film=[(0, 399)]), "0 399")
        self.assertEqual(film_of(text="399 0 / 10 100"), ((399, 0), (10, 100)))

    def test_no_films(self):
        for film in NO_FILMS + tuple([pair] for pair in NO_PAIRS) + ([(0, 1)] * 1001, [(0, 1), (1, 1)]):
            self.raises(BadFilm, ("film",), film_text, film)

    def test_no_strings(self):
        for value in (None, True, 0, 3.5, b"3 6", ["3", "6"], ("-",), {}, [(3, 6)], ()):
            self.raises(BadText, (0, 0), film_of, value)

    def test_faults_at_each_item(self):
        wrong = ("", "-", "/", "x", "+3", "03", "-0", "-1", "400", "1000", "3.0", "\t3", "3\n", "|", "9" * 140, "9" * 141,
                 "\u0663", "3\u00a0", "//", "3/", "9" * 5000)
        items = "3 6 / 2 4 / 0 399".split(" ")
        for at, item in enumerate(items):
            for other in wrong:
                if other == item:
                    continue
                # Behind the first item that can't stand nothing is looked at.
                for behind in ([], items[at + 1:], ["x"]):
                    text = " ".join(items[:at] + [other] + behind)
                    if text != "-":
                        told = 1 if at == 0 and other == "-" else at
                        self.raises(BadText, (0, told), film_of, text)
            if item == "/":
                self.raises(BadText, (0, at), film_of, " ".join(items[:at] + ["5"] + items[at + 1:]))
        for text, at in (("", 0), (" ", 0), (" 3 6", 0), ("3  6", 1), ("3 6 ", 2), ("3 6 / ", 3), ("3 6 /  2 4", 3),
                         ("- -", 1), ("- 3 6", 1), ("- ", 1), ("-  ", 1), (" -", 0), ("--", 0), ("3 6 / -", 3)):
            self.raises(BadText, (0, at), film_of, text)

    def test_ends_too_early(self):
        items = "3 6 / 2 4 / 0 399".split(" ")
        for many in range(1, len(items) + 1):
            text = " ".join(items[:many])
            if many % 3 == 2:
                self.assertEqual(film_text(film_of(text)), text)
            else:
                self.raises(BadText, (0, many), film_of, text)

    def test_second_number_like_the_first_one(self):
        self.raises(BadText, (0, 1), film_of, "4 4")
        self.raises(BadText, (0, 1), film_of, "0 0 / x")
        self.raises(BadText, (0, 4), film_of, "3 6 / 399 399 / 1 2")
        # Only within a pair.
        self.assertEqual(film_of("3 6 / 6 3 / 3 6"), ((3, 6), (6, 3), (3, 6)))

    def test_behind_a_thousand_pairs(self):
        text = film_text([(0, 1)] * 1000)
        self.assertEqual(len(film_of(text)), 1000)
        for more in (" /", " / 0 1", " 0", " ", " x"):
            self.raises(BadText, (0, 2999), film_of, text + more)
        self.raises(BadText, (0, 2999), film_of, film_text([(0, 1)] * 999) + " / 0 1 / 0 1")


if __name__ == "__main__":
    unittest.main()
