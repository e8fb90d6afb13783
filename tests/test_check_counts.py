import random
import unittest

from baysout.changed import begun
from baysout.check_counts import shows_least, shows_most, shows_winner
from baysout.counts import First, Least, Most, Second, film_counts, least_film, most_film, winner
from baysout.ends import Ended
from baysout.errors import TooMany
from baysout.fences import Fence
from baysout.films import film_out, is_film, played
from baysout.mouths import first_mouths, mouths_of
from baysout.papers import Denial, Paper
from tests.makers import (
    GREAT, MANY, NO_FENCES, NO_POINTS, NOTCH, SQUARE, TOO_MANY, TUB, Case, comb_corners, film_by, spiral_corners,
)
from tests.test_counts import BOTH, CURVED, Search, small_fences
from tests.test_films import NO_FILMS, NO_PAIRS

CHECKS = (shows_least, shows_most, shows_winner)


def plain_films(fence):
    """Some plain films that end, by chance, and the two that are told."""
    numbers = random.Random(17)
    films = [film_by(fence, first_mouths, numbers) for _ in range(6)]
    return films + [list(least_film(fence).film), list(most_film(fence).film), list(film_out(fence))]


class Films(Case):
    def test_films_of_all_lengths(self):
        unlike = 0
        for fence in small_fences():
            if len(Search(fence).found) > 300:
                continue
            lengths = [length for length, _ in film_counts(fence)]
            unlike += len(lengths) > 1
            for film in plain_films(fence):
                for value in (film, tuple(film), [list(pair) for pair in film]):
                    self.assertIs(shows_least(fence, Least(value)), len(film) == lengths[0])
                    self.assertIs(shows_most(fence, Most(value)), len(film) == lengths[-1])
                    self.assertIs(shows_least(fence, Most(value)), False)
                    self.assertIs(shows_most(fence, Least(value)), False)
        self.assertGreater(unlike, 2)

    def test_bent_films(self):
        numbers = random.Random(18)
        for fence in small_fences():
            if len(Search(fence).found) > 300:
                continue
            for kind, check, told in ((Least, shows_least, least_film(fence)), (Most, shows_most, most_film(fence))):
                film = list(told.film)
                bent = [film + [(0, 1)], film + [(2, 4)], [(2, 4)] + film, film + film]
                for at in range(len(film)):
                    p, q = film[at]
                    other = (numbers.randrange(fence.many), numbers.randrange(fence.many))
                    for pairs in ([], [(q, p)], [other], [(p, q + fence.many)], [(p, GREAT)], [(p - fence.many, q)],
                                  [(p, q), (p, q)], [(float(p), q)], [(p, q, 0)], [(p,)], [p, q], [None]):
                        bent.append(film[:at] + pairs + film[at + 1:])
                    if at:
                        bent.append(film[:at - 1] + [film[at], film[at - 1]] + film[at + 1:])
                for other in bent:
                    right = self.is_plain(fence, other) and len(other) == len(film)
                    self.assertIs(check(fence, kind(other)), right)

    def is_plain(self, fence, film):
        """Whether a list is a plain film that ends, by playing it."""
        if not is_film(film):
            return False
        for pair in film:
            if tuple(pair) not in first_mouths(fence):
                return False
            fence = played(fence, [pair])
        return not mouths_of(fence)

    def test_films_that_are_not_plain(self):
        # (3, 6) is a mouth of tub, but no first one.
        tub = Fence(TUB)
        self.assertEqual(first_mouths(tub), ((2, 6),))
        for film in ([(3, 6), (2, 4), (5, 7)], [(2, 7)], [(3, 6)]):
            self.assertIs(shows_least(tub, Least(film)), False)
            self.assertIs(shows_most(tub, Most(film)), False)

    def test_truths_and_other_numbers(self):
        # At (4, 1) the mouth of this fence stands; True is no number.
        fence = begun(Fence(NOTCH), 3)
        for film, right in (([(4, 1)], True), ([[4, 1]], True), ([(4, True)], False), ([(4.0, 1)], False)):
            self.assertIs(shows_least(fence, Least(film)), right)
            self.assertIs(shows_most(fence, Most(film)), right)

    def test_no_films(self):
        for fence in (Fence(SQUARE), Fence(NOTCH)):
            for film in NO_FILMS:
                self.assertIs(shows_least(fence, Least(film)), False)
                self.assertIs(shows_most(fence, Most(film)), False)
            for pair in NO_PAIRS:
                for film in ([pair], [(2, 4), pair]):
                    self.assertIs(shows_least(fence, Least(film)), False)
                    self.assertIs(shows_most(fence, Most(film)), False)
        self.assertIs(shows_least(Fence(SQUARE), Least([])), True)
        self.assertIs(shows_most(Fence(SQUARE), Most(())), True)

    def test_just_three_hundred_stages(self):
        fence = Fence(MANY)
        self.assertIs(shows_least(fence, least_film(fence)), True)
        self.assertIs(shows_most(fence, most_film(fence)), True)
        self.assertIs(shows_least(fence, Least(most_film(fence).film)), False)
        self.assertIs(shows_most(fence, Most(least_film(fence).film)), False)
        self.assertIs(shows_winner(fence, winner(fence)), True)


class Winners(Case):
    def test_each_mouth(self):
        first, second = 0, 0
        for fence in small_fences():
            search = Search(fence)
            if len(search.found) > 300:
                continue
            self.assertIs(shows_winner(fence, winner(fence)), True)
            self.assertIs(shows_winner(fence, Second()), not search.wins)
            for p in range(-1, fence.many + 1):
                for q in range(-1, fence.many + 1):
                    right = (p, q) in search.wins
                    self.assertIs(shows_winner(fence, First((p, q))), right)
                    self.assertIs(shows_winner(fence, First([p, q])), right)
            first, second = first + bool(search.wins), second + (not search.wins)
        self.assertGreater(min(first, second), 10)

    def test_by_hand(self):
        for value, right in ((First((0, 2)), True), (First([0, 2]), True), (First((2, 4)), False), (Second(), False)):
            self.assertIs(shows_winner(Fence(CURVED), value), right)
        self.assertIs(shows_winner(value=Second(), fence=Fence(BOTH)), True)
        self.assertIs(shows_winner(Fence(SQUARE), Second()), True)
        self.assertIs(shows_winner(Fence(SQUARE), First((0, 2))), False)
        self.assertIs(shows_winner(Fence(SQUARE), First(())), False)

    def test_no_mouths(self):
        fence = begun(Fence(NOTCH), 3)
        self.assertIs(shows_winner(fence, First((4, 1))), True)
        for value in NO_POINTS + ((4, True), (4.0, 1), (4, 1, 0), "41", ((4, 1),), [(4, 1)]):
            self.assertIs(shows_winner(fence, First(value)), False)


class Others(Case):
    def test_other_values(self):
        for row in (SQUARE, NOTCH, CURVED):
            fence = Fence(row)
            told = (least_film(fence), most_film(fence), winner(fence))
            for check, right in zip(CHECKS, told):
                for value in told + (Paper(right.word, *right.parts), Denial(right.word, *right.parts), right.parts,
                                     Ended(row, right.parts), Ended, right.word, Least, Second) + NO_FENCES:
                    self.assertIs(check(fence, value), value is right)

    def test_fences_wanted(self):
        for check in CHECKS:
            for value in (None, Least([]), Most([(2, 4)]), Second()):
                self.no_fence_first(check, value)

    def test_more_stages_whatever_the_value_is(self):
        for row in (TOO_MANY, comb_corners(100, 10 ** 5)):
            for check in CHECKS:
                for value in (None, Least([]), Most([]), First((0, 1)), Second(), 5):
                    self.raises(TooMany, ("fences", 300), check, Fence(row), value)

    def test_nothing_is_changed(self):
        film = [[2, 4], [0, 3]]
        paper = Least(film)
        shows_least(Fence(CURVED), paper)
        self.assertEqual([film, paper.parts], [[[2, 4], [0, 3]], (((2, 4), (0, 3)),)])

    def test_short_time(self):
        for row in (MANY, spiral_corners(49), spiral_corners(199)):
            fence = Fence(row)
            for check, value in zip(CHECKS, (least_film(fence), most_film(fence), winner(fence))):
                self.assertIs(self.is_short(check, fence, value), True)
        for check in CHECKS:
            self.is_short(self.raises, TooMany, ("fences", 300), check, Fence(comb_corners(400, 10 ** 5)), None)


if __name__ == "__main__":
    unittest.main()
