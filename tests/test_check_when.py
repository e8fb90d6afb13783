import random
import unittest

from baysout.check_when import shows_late, shows_soon
from baysout.counts import First, Least, Second
from baysout.ends import end_of
from baysout.errors import BadPoint, TooMany
from baysout.fences import Fence
from baysout.makes import comb
from baysout.mouths import mouths_of
from baysout.papers import Denial, Paper
from baysout.when import Already, Late, Never, Soon, land_ever, latest, soonest
from tests.makers import GREAT, MANY, NO_FENCES, NO_POINTS, NOTCH, TOO_MANY, TUB, Case
from tests.test_films import NO_FILMS, NO_PAIRS
from tests.test_tracks import CURVED
from tests.test_when import points_about, searched

CHECKS = ((shows_soon, Soon, Never), (shows_late, Late, Already))


def bent_films(film, numbers):
    """Films beside a film: cut, longer, with a pair changed, with truths, and other values."""
    film = list(film)
    bent = [film[:-1], film[1:], film + film[-1:], film[::-1], film + [(0, 2)], film + [(2, 4)], film + [None], [None],
            [True], [(2, 4, 4)], [("2", "4")], "2 4", None, True, 0, {}, {(2, 4)}, [[[2, 4]]], [(True, 2)], [(False, 2)]]
    for at, (p, q) in enumerate(film):
        for pair in ((q, p), (p, q + 1), (p + 1, q), (p, p), (float(p), q), (p, str(q)), (p,), (p, q, 0), p, (p - 1, q)):
            bent.append(film[:at] + [pair] + film[at + 1:])
    if film and film[0][0] in (0, 1):
        bent.append([(bool(film[0][0]), film[0][1])] + film[1:])
    numbers.shuffle(bent)
    return bent


def is_in(film, films):
    """Whether any value is one of some films, truths being no numbers."""
    if not isinstance(film, (list, tuple)) or not all(isinstance(pair, (list, tuple)) for pair in film):
        return False
    plain = tuple(tuple(pair) for pair in film)
    return plain in films and all(type(number) is int for pair in plain for number in pair)


class Films(Case):
    def test_against_all_films(self):
        numbers, found = random.Random(111), {True: 0, False: 0}
        for fence, films in searched():
            every = [film for more in films.films.values() for film in more]
            for point in points_about(fence, numbers, 2)[:5]:
                for check, kind, denial in CHECKS:
                    right = films.soonest(point) if kind is Soon else films.latest(point)
                    for film in numbers.sample(every, min(6, len(every))) + right[:3]:
                        told = film in right
                        self.assertIs(check(fence, point, kind(film)), told)
                        self.assertIs(check(value=kind([list(pair) for pair in film]), point=list(point), fence=fence), told)
                        found[told] += 1
                    self.assertIs(check(fence, point, denial()), not right)
                    for film in right[:1]:
                        for bent in bent_films(film, numbers):
                            self.assertIs(check(fence, point, kind(bent)), is_in(bent, right))
        self.assertGreater(min(found.values()), 200)

    def test_told_ones(self):
        numbers = random.Random(112)
        for fence, _ in searched():
            for point in points_about(fence, numbers, 4):
                self.assertIs(shows_soon(fence, point, soonest(fence, point)), True)
                self.assertIs(shows_late(fence, point, latest(fence, point)), True)

    def test_films_that_are_not_plain(self):
        # (3, 6) is a mouth of tub, but no first one.
        tub = Fence(TUB)
        self.assertIn((3, 6), mouths_of(tub))
        self.assertIs(shows_soon(tub, (3, 4), Soon([(2, 6)])), True)
        self.assertIs(shows_soon(tub, (3, 4), Soon([(3, 6)])), False)
        self.assertIs(shows_late(tub, (9, 9), Late([(2, 6), (4, 7)])), True)
        self.assertIs(shows_late(tub, (9, 9), Late([(3, 6), (2, 4), (5, 7)])), False)

    def test_no_films(self):
        notch = Fence(NOTCH)
        for value in NO_FILMS + NO_PAIRS + tuple([pair] for pair in NO_PAIRS):
            if value == ((2, 4),):
                continue
            for point in ((2, 3), (2, 7)):
                self.assertIs(shows_soon(notch, point, Soon(value)), False)
            if value not in ([], ()):
                self.assertIs(shows_late(notch, (2, 3), Late(value)), False)
            self.assertIs(shows_late(notch, (2, 7), Late(value)), False)
        self.assertIs(shows_late(notch, (2, 3), Late([])), True)


class Others(Case):
    def test_where_denials_are_due(self):
        notch = Fence(NOTCH)
        for point, ever in (((2, 2), "now"), ((2, 3), "later"), ((2, 7), "never")):
            self.assertEqual(land_ever(notch, point), ever)
            self.assertIs(shows_soon(notch, point, Never()), ever == "never")
            self.assertIs(shows_late(notch, point, Already()), ever == "now")
            # A paper of the other function is none.
            for value in (Already(), Late([]), Late([(2, 4)])):
                self.assertIs(shows_soon(notch, point, value), False)
            for value in (Never(), Soon([]), Soon([(2, 4)])):
                self.assertIs(shows_late(notch, point, value), False)

    def test_other_values(self):
        curved = Fence(CURVED)
        for point in ((5, 2), (9, 9), (3, 2)):
            for check, told in ((shows_soon, soonest(curved, point)), (shows_late, latest(curved, point))):
                for value in (Paper(told.word, *told.parts), Denial(told.word, *told.parts), told.parts, told.word, Soon, Late,
                              Never, Already, Least([]), First((0, 2)), Second(), [told], "soon", "never") + NO_FENCES:
                    self.assertIs(check(curved, point, value), False)
                self.assertIs(check(curved, point, told), True)

    def test_errors_in_order(self):
        values = (None, Soon([]), Late([]), Never(), Already())
        for check in (shows_soon, shows_late):
            for value in values:
                self.no_fence_first(check, None, value)
                for point in NO_POINTS:
                    self.raises(BadPoint, ("point",), check, Fence(NOTCH), point, value)
                    self.raises(BadPoint, ("point",), check, Fence(TOO_MANY), point, value)
                for point in ((5, 5), (GREAT, 0), TOO_MANY[0]):
                    self.raises(TooMany, ("fences", 300), check, Fence(TOO_MANY), point, value)

    def test_short_time(self):
        fence = Fence(MANY)
        for point in ((5, 5), (2, 5), end_of(fence).corners[0], (GREAT, 0)):
            self.assertIs(self.is_short(shows_soon, fence, point, soonest(fence, point)), True)
            self.assertIs(self.is_short(shows_late, fence, point, latest(fence, point)), True)
        for check in (shows_soon, shows_late):
            self.is_short(self.raises, TooMany, ("fences", 300), check, comb(25, 10 ** 5), (0, 0), None)


if __name__ == "__main__":
    unittest.main()
