import unittest
from collections import Counter

from baysout.changed import begun, grown, moved, with_corner
from baysout.counts import (
    First, Least, Most, Second, all_stages, at_most, bite, film_counts, least_film, most_film, winner,
)
from baysout.errors import BadMouth, TooMany
from baysout.fences import Fence
from baysout.films import played, stages
from baysout.hulls import is_convex
from baysout.lifts import directions_of, to_and_fro
from baysout.mouths import first_mouths, mouths_of
from baysout.papers import Denial, Paper
from baysout.turnings import turned_out
from tests.makers import (
    COMB, GREAT, HOOK, MANY, NO_POINTS, NOTCH, RULED, SQUARE, TOO_MANY, TUB, Case, comb_corners, fences_of_all_kinds,
    slanted, spiral_corners, swinging_corners,
)
from tests.oracles import all_mouths

CURVED = ((4, 0), (3, 2), (4, 3), (1, 2), (2, 3), (0, 2))
BOTH = ((0, 0), (2, 1), (4, 0), (4, 4), (2, 3), (0, 4))
SEARCHES = (all_stages, film_counts, least_film, most_film, winner)


class Search:
    """All plain films of a fence, one behind another."""

    def __init__(self, fence):
        self.found = {}
        self.look(fence)
        self.lengths, self.wins = self.found[fence.corners]

    def look(self, fence):
        """For a stage how many films from there that end have so many turnings, and by which mouths one wins."""
        if fence.corners in self.found:
            return self.found[fence.corners]
        lengths, wins = Counter(), []
        for mouth in all_mouths(fence.corners)[1]:
            more, lost = self.look(turned_out(fence, mouth))
            for length, films in more.items():
                lengths[length + 1] += films
            if not lost:
                wins.append(mouth)
        self.found[fence.corners] = (lengths or Counter({0: 1}), wins)
        return self.found[fence.corners]


def small_fences():
    """Fences whose films can be searched in a slow way, convex ones too."""
    fences = [Fence(row) for row in (SQUARE, NOTCH, COMB, TUB, HOOK, RULED, CURVED, BOTH, spiral_corners(6))]
    return fences + [fence for fence in fences_of_all_kinds() if fence.many < 9]


class Papers(Case):
    def test_papers(self):
        for kind, word in ((Least, "least"), (Most, "most")):
            told = kind(film=[[1, 2], (3, 4)])
            self.assertEqual([told.word, told.parts, told.film, bool(told)],
                             [word, (((1, 2), (3, 4)),), ((1, 2), (3, 4)), True])
            self.assertEqual(kind.__bases__, (Paper,))
            self.assertTrue(kind(((1, 2), (3, 4))) == told)
            self.assertEqual(kind({"a": [1]}).film, {"a": [1]})
        self.assertFalse(Least([(1, 2)]) == Most([(1, 2)]))
        told = First([2, 4])
        self.assertEqual([told.word, told.parts, told.mouth, bool(told)], ["first", ((2, 4),), (2, 4), True])
        self.assertEqual([Second().word, Second().parts, bool(Second())], ["second", (), False])
        self.assertEqual([First.__bases__, Second.__bases__], [(Paper,), (Denial,)])
        self.assertTrue(First(mouth=(2, 4)) == told)
        self.assertTrue(Second() == Second())
        self.assertFalse(Denial("second") == Second())


class Bites(Case):
    def test_by_hand(self):
        self.assertEqual([bite(Fence(CURVED), mouth) for mouth in ((0, 2), [2, 4])], [2, 4])
        self.assertEqual([bite(Fence(TUB), mouth) for mouth in ((2, 6), (3, 6), (2, 7), (3, 7))], [2, 0, 0, 2])
        self.assertEqual(bite(fence=begun(Fence(CURVED), 1), mouth=(5, 1)), 2)

    def test_what_to_and_fro_gets_less(self):
        none, over = 0, 0
        for fence in fences_of_all_kinds():
            first = first_mouths(fence)
            for p, q in mouths_of(fence):
                told = bite(fence, (p, q))
                self.assertEqual(told, to_and_fro(fence) - to_and_fro(turned_out(fence, (p, q))))
                self.assertGreaterEqual(told, 2 if (p, q) in first else 0)
                none, over = none + (told == 0), over + (p > q)
        self.assertGreater(none, 20)
        self.assertGreater(over, 50)

    def test_begun_elsewhere(self):
        for row in (COMB, TUB, HOOK, CURVED):
            for at in range(len(row)):
                for p, q in mouths_of(Fence(row)):
                    there = ((p - at) % len(row), (q - at) % len(row))
                    self.assertEqual(bite(begun(Fence(row), at), there), bite(Fence(row), (p, q)))

    def test_wrong_values(self):
        for mouth in ((2, 4), None):
            self.no_fence_first(bite, mouth)
        for fence in (Fence(TUB), begun(Fence(COMB), 3), Fence(SQUARE)):
            for p in range(-1, 10):
                for q in range(-1, 10):
                    if (p, q) not in mouths_of(fence):
                        self.raises(BadMouth, ("mouth",), bite, fence, (p, q))
            for value in NO_POINTS + ((2, 6, 7), "26", (2.0, 6), ((2, 6),), (GREAT, 6)):
                self.raises(BadMouth, ("mouth",), bite, fence, value)
        self.raises(BadMouth, ("mouth",), bite, begun(Fence(COMB), 3), (True, 4))

    def test_short_time(self):
        for row in (comb_corners(100, 10 ** 5), spiral_corners(49), comb_corners(400, 10 ** 5)):
            self.is_short(bite, Fence(row), mouths_of(Fence(row))[0])


class AtMost(Case):
    def test_half_of_what_is_too_much(self):
        for fence in fences_of_all_kinds():
            told = at_most(fence)
            self.assertEqual(2 * told, to_and_fro(fence) - len(directions_of(fence)))
            self.assertEqual(told == 0, is_convex(fence))
        told = [at_most(fence=Fence(row)) for row in (SQUARE, NOTCH, CURVED, BOTH, swinging_corners(3, 3))]
        self.assertEqual(told, [0, 1, 3, 2, 1001])
        self.assertEqual([at_most(Fence(spiral_corners(arms))) for arms in (1, 2, 49, 199)], [0, 1, 48, 198])
        self.no_fence_first(at_most)


class Searches(Case):
    def test_against_a_search(self):
        unlike = set()
        for fence in small_fences():
            search = Search(fence)
            many = len(search.found)
            if many > 300:
                continue
            self.assertEqual(all_stages(fence), many)
            self.assertEqual(film_counts(fence), tuple(sorted(search.lengths.items())))
            for told, kind, length in ((least_film(fence), Least, min(search.lengths)),
                                       (most_film(fence), Most, max(search.lengths))):
                self.assertIs(type(told), kind)
                self.assertEqual(len(told.film), length)
                for pair, stage in zip(told.film, stages(fence, told.film)):
                    self.assertIn(pair, first_mouths(stage))
                self.assertIs(is_convex(played(fence, told.film)), True)
            told = winner(fence)
            self.assertIs(type(told), First if search.wins else Second)
            self.assertEqual(bool(told), bool(search.wins))
            if search.wins:
                self.assertIn(told.mouth, search.wins)
            unlike.add((min(search.lengths) < max(search.lengths), bool(search.wins), len(first_mouths(fence))))
        # Both who begins and who does not win, where films differ in length and where they don't.
        self.assertLessEqual({(True, True, 2), (False, True, 2), (False, False, 2), (True, False, 2)}, unlike)

    def test_by_hand(self):
        told = [(all_stages(Fence(row)), film_counts(Fence(row))) for row in (SQUARE, NOTCH, CURVED, BOTH, RULED)]
        self.assertEqual(told, [(1, ((0, 1),)), (2, ((1, 1),)), (5, ((2, 1), (3, 1))), (4, ((2, 2),)), (1, ((0, 1),))])
        self.assertTrue(least_film(Fence(SQUARE)) == Least(()))
        self.assertTrue(most_film(Fence(SQUARE)) == Most(()))
        self.assertTrue(winner(Fence(RULED)) == Second())
        self.assertTrue(winner(fence=Fence(NOTCH)) == First((2, 4)))
        self.assertTrue(least_film(Fence(CURVED)) == Least([(2, 4), (0, 3)]))
        self.assertTrue(most_film(Fence(CURVED)) == Most([(0, 2), (2, 4), (1, 3)]))
        self.assertIs(type(film_counts(Fence(CURVED))[0]), tuple)
        # Each stage of a spiral has one first mouth.
        self.assertEqual(film_counts(Fence(spiral_corners(49))), ((48, 1),))
        self.assertEqual(all_stages(Fence(spiral_corners(49))), 49)

    def test_corners_that_stand_elsewhere(self):
        # By the mouths on either side the same land may come, the corners at other places on it.
        fence = Fence(TUB)
        self.assertEqual(all_stages(fence), len(Search(fence).found))
        more = with_corner(with_corner(grown(Fence(NOTCH), 2), 2, (6, 6)), 4, (2, 6))
        self.assertEqual(all_stages(more), len(Search(more).found))

    def test_begun_moved_grown(self):
        for fence in small_fences()[:20]:
            search = Search(fence)
            told = (all_stages(fence), film_counts(fence), len(least_film(fence).film), bool(winner(fence)))
            self.assertEqual(told[0], len(search.found))
            for other in [moved(grown(fence, GREAT), (-GREAT, 5))] + [begun(fence, at) for at in range(fence.many)]:
                there = (all_stages(other), film_counts(other), len(least_film(other).film), bool(winner(other)))
                self.assertEqual(there, told)

    def test_just_three_hundred_stages(self):
        fence = Fence(MANY)
        search = Search(fence)
        self.assertEqual(len(search.found), 300)
        self.assertEqual(all_stages(fence), 300)
        self.assertEqual(film_counts(fence), tuple(sorted(search.lengths.items())))
        self.assertEqual(len(least_film(fence).film), min(search.lengths))
        self.assertEqual(len(most_film(fence).film), max(search.lengths))
        self.assertEqual(bool(winner(fence)), bool(search.wins))

    def test_more_stages(self):
        self.assertEqual(len(Search(Fence(TOO_MANY)).found), 301)
        for row in (TOO_MANY, comb_corners(100, 10 ** 5), comb_corners(400, 10 ** 5), swinging_corners(3, 3)):
            fence = Fence(row)
            for function in SEARCHES:
                self.raises(TooMany, ("fences", 300), function, fence)
            self.assertEqual(2 * at_most(fence), to_and_fro(fence) - len(directions_of(fence)))
            mouth = first_mouths(fence)[0]
            self.assertEqual(bite(fence, mouth), to_and_fro(fence) - to_and_fro(turned_out(fence, mouth)))

    def test_fences_wanted(self):
        for function in SEARCHES:
            self.no_fence_first(function)

    def test_short_time(self):
        for function in SEARCHES:
            for row in (MANY, spiral_corners(49), spiral_corners(199)):
                self.is_short(function, Fence(row))
            for row in (comb_corners(100, 10 ** 5), slanted(comb_corners(400, 10 ** 5), 3)):
                self.is_short(self.raises, TooMany, ("fences", 300), function, Fence(row))


if __name__ == "__main__":
    unittest.main()
