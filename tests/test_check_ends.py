import random
import unittest

from baysout.changed import begun, mirrored, moved, with_corner
from baysout.check_ends import ends_at, shows_ended
from baysout.counts import Least
from baysout.ends import Ended, end_of, ended
from baysout.fences import Fence
from baysout.films import film_out, played
from baysout.hulls import is_convex
from baysout.mouths import first_mouths, mouths_of
from baysout.papers import Denial, Paper
from tests.makers import (
    GREAT, NO_FENCES, NOTCH, RULED, SQUARE, TUB, Case, comb_corners, fences_of_all_kinds, film_by, narrow_film,
    slanted, spiral_corners, swinging_corners,
)
from tests.test_films import NO_FILMS, NO_PAIRS


def bent_films(film, fence, numbers):
    """Lists of pairs beside a film that ends."""
    pair = (numbers.randrange(fence.many), numbers.randrange(fence.many))
    bent = [film + [pair], film + [(0, 399)], film + film[-1:], [pair] + film]
    if film:
        at = numbers.randrange(len(film))
        bent += [film[:-1], film[1:], film[:at] + film[at + 1:], film[:at] + [film[at][::-1]] + film[at + 1:],
                 film[:at] + [pair] + film[at + 1:], film[::-1]]
    return bent


def by_playing(fence, film):
    """Whether a list of pairs of integers is a film of mouths that ends."""
    for pair in film:
        if pair not in mouths_of(fence):
            return False
        fence = played(fence, [pair])
    return is_convex(fence)


class EndsAt(Case):
    def test_films_that_end_and_others(self):
        numbers, right, wrong = random.Random(13), 0, 0
        for fence in fences_of_all_kinds():
            for choose in (first_mouths, mouths_of):
                film = film_by(fence, choose, numbers)
                self.assertIs(ends_at(fence, film), True)
                self.assertIs(ends_at(film=tuple(list(pair) for pair in film), fence=fence), True)
                for other in bent_films(film, fence, numbers):
                    told = by_playing(fence, other)
                    self.assertIs(ends_at(fence, other), told)
                    right, wrong = right + told, wrong + (not told)
        self.assertGreater(wrong, 500)
        self.assertGreater(right, 10)

    def test_no_films(self):
        for fence in (Fence(SQUARE), Fence(NOTCH)):
            for film in NO_FILMS:
                self.assertIs(ends_at(fence, film), False)
            for pair in NO_PAIRS:
                self.assertIs(ends_at(fence, [pair]), False)
                self.assertIs(ends_at(fence, [(2, 4), pair]), False)
        self.assertIs(ends_at(begun(Fence(NOTCH), 3), [(4, True)]), False)
        self.assertIs(ends_at(begun(Fence(NOTCH), 3), [(4, 1)]), True)

    def test_a_thousand_pairs(self):
        told, film = narrow_film()
        late = len(film) - 1000
        self.assertIs(ends_at(Fence(told[late]), film[late:]), True)
        # One pair more is no film, though all are mouths.
        self.assertIs(ends_at(Fence(told[late - 1]), film[late - 1:]), False)
        self.assertIs(ends_at(Fence(told[late + 1]), film[late + 1:]), True)

    def test_no_too_many(self):
        fence = Fence(swinging_corners(3, 3))
        film = film_by(fence, first_mouths, random.Random(14))
        self.assertIs(ends_at(fence, film), True)
        self.assertIs(ends_at(fence, []), False)
        self.assertIs(shows_ended(fence, Ended(end_of(fence).corners, film)), True)
        self.assertIs(shows_ended(fence, None), False)

    def test_fences_wanted(self):
        for value in ([(2, 4)], [], None):
            self.no_fence_first(ends_at, value)
        for value in (Ended(SQUARE, []), None):
            self.no_fence_first(shows_ended, value)


class ShowsEnded(Case):
    def test_right_ones(self):
        numbers = random.Random(15)
        for fence in fences_of_all_kinds():
            field = end_of(fence).corners
            self.assertIs(shows_ended(fence, ended(fence)), True)
            for choose in (first_mouths, mouths_of):
                film = film_by(fence, choose, numbers)
                for value in (Ended(field, film), Ended([list(corner) for corner in field], tuple(film)),
                              Ended(film=[list(pair) for pair in film], field=list(field))):
                    self.assertIs(shows_ended(fence, value), True)

    def test_other_films(self):
        numbers = random.Random(16)
        for fence in fences_of_all_kinds():
            field = end_of(fence).corners
            film = film_by(fence, mouths_of, numbers)
            for other in bent_films(film, fence, numbers):
                self.assertIs(shows_ended(fence, Ended(field, other)), by_playing(fence, other))
        fence = Fence(NOTCH)
        field = end_of(fence).corners
        for film in NO_FILMS + tuple([(2, 4), pair] for pair in NO_PAIRS):
            self.assertIs(shows_ended(fence, Ended(field, film)), False)
            self.assertIs(shows_ended(Fence(SQUARE), Ended(SQUARE, film)), False)

    def test_other_fields(self):
        for fence in fences_of_all_kinds():
            field, film = end_of(fence), film_out(fence)
            others = [begun(field, at).corners for at in range(1, field.many)]
            others += [moved(field, (0, 1)).corners, field.corners[::-1], field.corners[:-1], (), field,
                       field.corners + field.corners[:1], mirrored(moved(field, (GREAT, 0))).corners, str(field)]
            if not is_convex(fence):
                others += [fence.corners, played(fence, film)]
            for other in others:
                self.assertIs(shows_ended(fence, Ended(other, film)), False)

    def test_straight_corners(self):
        ruled = Fence(RULED)
        field = end_of(ruled).corners
        self.assertEqual(field, ((0, 0), (6, 0), (6, 6), (0, 6)))
        self.assertIs(shows_ended(ruled, Ended(field, ())), True)
        for other in (RULED, begun(ruled, 5).corners, with_corner(Fence(field), 1, (6, 2)).corners):
            self.assertIs(shows_ended(ruled, Ended(other, ())), False)

    def test_numbers_that_are_no_integers(self):
        unit = Fence(((0, 0), (1, 0), (0, 1)))
        self.assertIs(shows_ended(unit, Ended(unit.corners, [])), True)
        for field in (((False, 0), (1, 0), (0, 1)), ((0, 0), (True, 0), (0, 1)), ((0, 0), (1, 0), (0, 1.0)),
                      ((0, 0), (1, 0), "01"), ((0, 0), (1, 0), (0, 1, 1)), ((0, 0), (1, 0), None), {}, "0 0", None, 3,
                      {(0, 0), (1, 0), (0, 1)}, {(0, 0): 1, (1, 0): 2, (0, 1): 3}):
            self.assertIs(shows_ended(unit, Ended(field, [])), False)

    def test_other_values(self):
        fence = Fence(NOTCH)
        told = ended(fence)
        for value in (Paper("ended", *told.parts), Denial("ended", *told.parts), Least(told.film), told.parts,
                      told.field, told.film, Ended, "ended", Ended(told.film, told.field)) + NO_FENCES:
            self.assertIs(shows_ended(fence, value), False)
        self.assertIs(shows_ended(value=told, fence=fence), True)
        self.assertIs(shows_ended(Fence(TUB), told), False)

    def test_short_time(self):
        for row in (comb_corners(100, 10 ** 5), slanted(comb_corners(100, 10 ** 5), 3), spiral_corners(49)):
            fence = Fence(row)
            self.assertIs(self.is_short(shows_ended, fence, ended(fence)), True)
            self.assertIs(self.is_short(ends_at, fence, film_out(fence)), True)


if __name__ == "__main__":
    unittest.main()
