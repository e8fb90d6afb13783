import random
import unittest

from baysout.changed import grown, moved, with_corner
from baysout.errors import BadFence, BadFilm, BadLine, TooMany
from baysout.fences import Fence, points_of, where
from baysout.films import film_out, stages
from baysout.makes import comb, stairs, zigzag
from baysout.mouths import mouths_of
from baysout.pictures import picture_beside, picture_of, pictures_of
from tests.makers import (
    GREAT, NO_FENCES, NOTCH, RULED, SQUARE, TUB, Case, fences_of_all_kinds, film_by, narrow_mouths, slanted,
    spiral_corners,
)
from tests.test_films import NO_FILMS, NO_PAIRS

COVE = ((0, 0), (9, 0), (9, 9), (7, 9), (7, 3), (3, 3), (3, 9), (0, 9))


def box_of_all(fences):
    """All points of the box of some fences, row by row from above."""
    xs = [x for fence in fences for x, _ in fence.corners]
    ys = [y for fence in fences for _, y in fence.corners]
    return [[(x, y) for x in range(min(xs), max(xs) + 1)] for y in range(max(ys), min(ys) - 1, -1)]


def sign_at(fence, point):
    """The sign of a point in the picture of a fence, by what where tells."""
    if point in fence.corners:
        return "+"
    return {"rim": "#", "within": ".", "off": " "}[where(fence, point)]


def drawn(fence, box):
    return tuple("".join(sign_at(fence, point) for point in row) for row in box)


def drawn_beside(fence, other):
    """The picture of a fence beside another one, point by point."""
    rows = []
    for row in box_of_all([fence, other]):
        signs = [sign_at(fence, point) for point in row]
        rows.append("".join(":" if sign == " " and where(other, point) != "off" else sign
                            for sign, point in zip(signs, row)))
    return tuple(rows)


class One(Case):
    def test_by_hand(self):
        self.assertEqual(picture_of(Fence(((0, 0), (1, 0), (0, 1)))), ("+ ", "++"))
        self.assertEqual(picture_of(Fence(((0, 0), (3, 0), (0, 3)))), ("+   ", "##  ", "#.# ", "+##+"))
        self.assertEqual(picture_of(fence=Fence(((0, 0), (3, 1), (2, 3)))), ("  + ", "  . ", " ..+", "+   "))
        self.assertEqual(picture_of(Fence(RULED)), (
            "+#####+", "#.....#", "#.....#", "#.....#", "#.....#", "#.....#", "++++##+"))
        told = picture_of(moved(Fence(NOTCH), (-GREAT, GREAT)))
        self.assertEqual(told, ("+   +", "## ##", "#.+.#", "#...#", "+###+"))
        self.assertEqual([type(told), type(told[0])], [tuple, str])

    def test_against_where(self):
        for fence in fences_of_all_kinds():
            for other in (fence, moved(fence, (-17, -30)), Fence(slanted(fence.corners))):
                told = picture_of(other)
                self.assertEqual(told, drawn(other, box_of_all([other])))
                signs = "".join(told)
                within, rim = points_of(other)
                self.assertEqual(signs.count("."), within)
                self.assertEqual((signs.count("#") + signs.count("+"), signs.count("+")), (rim, other.many))

    def test_straight_corners(self):
        more = with_corner(with_corner(Fence(SQUARE), 0, (2, 0)), 3, (3, 4))
        self.assertEqual(picture_of(more), ("+##++", "#...#", "#...#", "#...#", "+#+#+"))

    def test_rows_and_columns(self):
        for row, what in (
            (((0, 0), (199, 0), (0, 199)), None), (((0, 0), (199, 1), (0, 1)), None), (((0, 0), (1, 0), (0, 199)), None),
            (((0, 0), (200, 0), (0, 199)), "columns"), (((0, 0), (199, 0), (0, 200)), "rows"),
            (((0, 0), (200, 0), (0, 200)), "rows"), (((0, 0), (GREAT, 0), (0, 1)), "columns"),
            (((0, 0), (GREAT, 0), (0, GREAT)), "rows"), (((0, 0), (1, 0), (1, GREAT)), "rows"),
        ):
            for by in ((0, 0), (-100, -150), (GREAT, -GREAT)):
                fence = moved(Fence(row), by)
                if what is None:
                    told = picture_of(fence)
                    self.assertEqual((len(told), len(told[0])),
                                     (max(y for _, y in row) + 1, max(x for x, _ in row) + 1))
                    self.assertEqual({len(line) for line in told}, {len(told[0])})
                else:
                    self.raises(TooMany, (what, 200), picture_of, fence)

    def test_fences_wanted(self):
        self.no_fence_first(picture_of)


class Beside(Case):
    def test_by_hand(self):
        box = Fence(((0, 0), (1, 0), (1, 1), (0, 1)))
        self.assertEqual(picture_beside(box, moved(box, (2, 1))), ("  ::", "++::", "++  "))
        self.assertEqual(picture_beside(moved(box, (2, 1)), box), ("  ++", "::++", "::  "))
        self.assertEqual(picture_beside(box, box), ("++", "++"))
        # Within the bay of the other one, and the other way about.
        cup = Fence(((0, 0), (5, 0), (5, 4), (4, 4), (4, 1), (1, 1), (1, 4), (0, 4)))
        there = moved(box, (2, 3))
        self.assertEqual(picture_beside(fence=cup, other=there), (
            "++::++", "##::##", "##  ##", "#+##+#", "+####+"))
        self.assertEqual(picture_beside(there, cup), ("::++::", "::++::", "::  ::", "::::::", "::::::"))
        # On its land: only what lies without the fence itself shows the other one.
        self.assertEqual(picture_beside(cup, Fence(((0, 0), (3, 0), (3, 3), (0, 3)))), (
            "++  ++", "##::##", "##::##", "#+##+#", "+####+"))

    def pairs(self):
        numbers = random.Random(41)
        fences = fences_of_all_kinds()
        for fence in fences:
            other = numbers.choice(fences)
            yield fence, moved(other, (numbers.randint(-9, 9), numbers.randint(-9, 9)))
        for by in ((4, 5), (2, 2), (20, 0), (0, 20), (-9, -9), (9, 9)):
            yield Fence(COVE), moved(Fence(((0, 0), (2, 0), (2, 2), (0, 2))), by)

    def test_against_where(self):
        for fence, other in self.pairs():
            self.assertEqual(picture_beside(fence, other), drawn_beside(fence, other))
            self.assertEqual(picture_beside(other, fence), drawn_beside(other, fence))

    def test_box_of_both(self):
        dot = Fence(((0, 0), (1, 0), (0, 1)))
        for by, what in (((198, 198), None), ((198, 199), "rows"), ((199, 198), "columns"), ((199, 199), "rows"),
                         ((-198, -198), None), ((-198, -199), "rows"), ((-199, 0), "columns"), ((GREAT, GREAT), "rows")):
            if what is None:
                self.assertEqual(len(picture_beside(dot, moved(dot, by))), 200)
            else:
                self.raises(TooMany, (what, 200), picture_beside, dot, moved(dot, by))
                self.raises(TooMany, (what, 200), picture_beside, moved(dot, by), dot)

    def test_fences_wanted(self):
        great = grown(Fence(SQUARE), 1000)
        for value in NO_FENCES:
            self.raises(BadFence, ("fence",), picture_beside, value, great)
            self.raises(BadFence, ("fence",), picture_beside, value, value)
            self.raises(BadFence, ("other",), picture_beside, great, value)


class Films(Case):
    def test_against_where(self):
        numbers, longest = random.Random(42), 0
        for fence in fences_of_all_kinds()[::3]:
            fence = moved(fence, (numbers.randint(-50, 50), -40))
            film = film_by(fence, mouths_of, numbers)
            longest = max(longest, len(film))
            for many in {0, 1, len(film) // 2, len(film)}:
                told = pictures_of(fence, film[:many])
                rows = stages(fence, film[:many])
                box = box_of_all(rows)
                self.assertEqual(told, tuple(drawn(row, box) for row in rows))
                self.assertIs(type(told), tuple)
        self.assertGreater(longest, 4)

    def test_none_and_one(self):
        notch = Fence(NOTCH)
        self.assertEqual(pictures_of(notch, ()), (picture_of(notch),))
        self.assertEqual(pictures_of(film=[[2, 4]], fence=notch), (
            ("     ", "     ", "+   +", "## ##", "#.+.#", "#...#", "+###+"),
            ("  +  ", " #.# ", "+...+", "#...#", "#...#", "#...#", "+###+")))

    def test_box_of_all_stages(self):
        # Each stage has its own box, and the last one alone is too high, or too wide.
        high = Fence(((0, 0), (2, 0), (2, 101), (1, 2), (0, 101)))
        self.assertEqual(len(pictures_of(high, ())[0]), 102)
        self.raises(TooMany, ("rows", 200), pictures_of, high, [(2, 4)])
        fit = Fence(((0, 0), (2, 0), (2, 101), (1, 3), (0, 101)))
        self.assertEqual([len(rows) for rows in pictures_of(fit, [(2, 4)])], [200, 200])
        wide = Fence([(y, -x) for x, y in high.corners])
        self.raises(TooMany, ("columns", 200), pictures_of, wide, [(2, 4)])

    def test_errors_ahead_of_too_many(self):
        great = grown(Fence(TUB), 1000)
        self.raises(TooMany, ("rows", 200), pictures_of, great, [])
        self.no_fence_first(pictures_of, None)
        for film in NO_FILMS:
            self.raises(BadFilm, ("film",), pictures_of, great, film)
        for pair in NO_PAIRS:
            self.raises(BadFilm, ("film",), pictures_of, great, [pair])
        for film, line in (([(0, 1)], 0), ([(3, 6), (3, 6)], 1), ([(3, 6), (2, 4), (399, 0)], 2)):
            with self.assertRaises(BadLine) as caught:
                pictures_of(great, film)
            self.assertEqual([caught.exception.line, vars(caught.exception.error)], [line, {"part": "mouth"}])

    def test_short_time(self):
        for fence in (comb(100, 197), comb(50, 197), Fence(slanted(spiral_corners(20)))):
            self.is_short(picture_of, fence)
            self.is_short(picture_beside, fence, moved(fence, (0, 1)))
        for fence in (stairs(61), zigzag(61), grown(stairs(61), 3)):
            film = film_out(fence)
            self.assertGreater(len(film), 10)
            self.assertEqual(len(self.is_short(pictures_of, moved(fence, (-GREAT, 0)), film)), len(film) + 1)
        film = narrow_mouths(zigzag(61), 60)
        self.assertEqual(len(self.is_short(pictures_of, zigzag(61), film)), 61)


if __name__ == "__main__":
    unittest.main()
