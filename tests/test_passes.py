import random
import unittest

from baysout.errors import BadFence, BadFilm, BadMouth, BadNumber
from baysout.fences import Fence
from baysout.films import film_out, played
from baysout.hulls import is_convex
from baysout.lifts import direction_of
from baysout.makes import comb, spiral, zigzag
from baysout.papers import Denial, Paper
from baysout.passes import Order, Torn, order_of, passed, passes_of
from baysout.tracks import places_behind
from tests.makers import (
    GREAT, NO_INTEGERS, SQUARE, TUB, Case, narrow_mouths, slanted, spiral_corners,
)
from tests.oracles import table_by_counting, table_by_places
from tests.test_films import NO_FILMS, NO_PAIRS
from tests.test_tracks import CURVED, drawn_places, fences_with_films

NO_TABLES = NO_INTEGERS + (
    0, 3, "000", ((0, 0), (0, 0)), [[0]], ((0, 0, 0), (0, 0, 0)), ((0, 0, 0), (0, 0, 0), (0, 0)),
    ((0, 0, 0), (0, 0, 0, 0), (0, 0, 0)), ((0, 0, 0, 0),) * 3, ((0, 0, 0),) * 4, ((0, 0, 0), (0, 0, 0), None),
    ((0, 0, 0), (0, 0, 0), "000"), ((0, 0, 0), (0, 0, 0), {0: 0, 1: 0, 2: 0}), {0: (0, 0, 0), 1: (0, 0, 0), 2: (0, 0, 0)},
    # What is not 0 on the diagonal, what is not opposite.
    ((1, 0, 0), (0, 0, 0), (0, 0, 0)), ((0, 0, 0), (0, 0, 0), (0, 0, -1)), ((0, 1, 0), (1, 0, 0), (0, 0, 0)),
    ((0, 1, 0), (0, 0, 0), (0, 0, 0)), ((0, 0, 0), (0, 0, 2), (0, -1, 0)), ((0, 0, 0), (0, 0, 0), (5, 0, 0)),
    # Truths, and other values.
    ((0, True, 0), (-1, 0, 0), (0, 0, 0)), ((False, 0, 0), (0, 0, 0), (0, 0, 0)), ((0, 0, 0), (0, 0, 0), (0, 0, False)),
    ((0, 1.0, 0), (-1, 0, 0), (0, 0, 0)), ((0, None, 0), (None, 0, 0), (0, 0, 0)), ((0, "1", 0), (-1, 0, 0), (0, 0, 0)),
    ((0, (1,), 0), (-1, 0, 0), (0, 0, 0)), iter(((0, 0, 0),) * 3), (range(0), range(0), range(0)),
)


def table_with(table, i, j, entry):
    """The table with another entry, and its opposite."""
    rows = [list(row) for row in table]
    rows[i][j], rows[j][i] = entry, -entry
    return rows


def told_places(table):
    return [i + sum(row) for i, row in enumerate(table)]


def wrong_pairs(table):
    """All pairs of sides whose entry isn't that of the places that the rows tell, or whose places agree by n."""
    many, places = len(table), told_places(table)
    found = []
    for one in range(many):
        for other in range(one + 1, many):
            # How often other + k n comes from behind one to ahead of it, less the other way about.
            end = (places[one] - places[other] - 1) // many + 1
            first = (one - other - 1) // many + 1
            if (places[one] - places[other]) % many == 0 or table[one][other] != end - first:
                found.append((one, other))
    return found


class Papers(Case):
    def test_papers(self):
        told = Order(places=[1, [2]])
        self.assertEqual([told.word, told.parts, told.places, bool(told)], ["order", ((1, (2,)),), (1, (2,)), True])
        torn = Torn(1, other=[2])
        self.assertEqual([torn.word, torn.parts, torn.one, torn.other, bool(torn)], ["torn", (1, (2,)), 1, (2,), False])
        self.assertEqual([Order.__bases__, Torn.__bases__], [(Paper,), (Denial,)])
        self.assertTrue(Torn(0, 1) == Torn(0, 1))
        self.assertFalse(Torn(0, 1) == Torn(1, 0))
        self.assertFalse(Order((0, 1)) == Paper("order", (0, 1)))


class Passed(Case):
    def test_turning_by_turning(self):
        entries = set()
        for fence, film in fences_with_films():
            if len(film) > 12:
                continue
            table = passed(fence, film)
            self.assertEqual(table, table_by_counting(film, fence.many))
            self.assertEqual([type(table), type(table[0])], [tuple, tuple])
            entries |= {entry for row in table for entry in row}
        self.assertLessEqual({-1, 0, 1}, entries)

    def test_as_it_is_told(self):
        twice = 0
        for fence, film in fences_with_films():
            if fence.many < 12:
                table, places = passed(fence, film), places_behind(fence, film)
                self.assertEqual(table, table_by_places(places))
                twice += any(abs(entry) > 1 for row in table for entry in row)
        # Sides that wind round one another pass more than once.
        for arms in (5, 6, 7):
            fence = spiral(arms)
            table = passed(fence, film_out(fence))
            self.assertEqual(table, table_by_places(places_behind(fence, film_out(fence))))
            twice += any(abs(entry) > 1 for row in table for entry in row)
        self.assertGreater(twice, 0)

    def test_facts(self):
        for fence, film in fences_with_films():
            many, table, places = fence.many, passed(fence, film), places_behind(fence, film)
            for i in range(many):
                self.assertEqual(table[i][i], 0)
                self.assertEqual(i + sum(table[i]), places[i])
                self.assertTrue(all(table[i][j] == -table[j][i] for j in range(i)))

    def test_films_that_end(self):
        unlike = set()
        for fence, film in fences_with_films():
            if not is_convex(played(fence, film)):
                continue
            table, told = passed(fence, film), passes_of(fence)
            directions = [direction_of(side) for side in fence.sides]
            for i in range(fence.many):
                for j in range(fence.many):
                    if directions[i] == directions[j]:
                        self.assertIsNone(told[i][j])
                        unlike.add((table[i][j] == 0, i == j))
                    else:
                        self.assertEqual(told[i][j], table[i][j])
            self.assertEqual([type(told), type(told[0]), len(told)], [tuple, tuple, fence.many])
        # Sides of one direction pass one another or not.
        self.assertEqual(unlike, {(True, True), (True, False), (False, False)})

    def test_by_hand(self):
        none = ((0,) * 6,) * 6
        self.assertEqual(passed(fence=Fence(CURVED), film=()), none)
        self.assertEqual(passed(Fence(CURVED), [[2, 4]]), (
            (0,) * 6, (0,) * 6, (0, 0, 0, 1, 0, 0), (0, 0, -1, 0, 0, 0), (0,) * 6, (0,) * 6))
        self.assertEqual(passes_of(fence=Fence(SQUARE)), (
            (None, 0, 0, 0), (0, None, 0, 0), (0, 0, None, 0), (0, 0, 0, None)))

    def test_errors(self):
        self.no_fence_first(passed, None)
        self.no_fence_first(passes_of)
        for film in NO_FILMS + tuple([pair] for pair in NO_PAIRS):
            self.raises(BadFilm, ("film",), passed, Fence(TUB), film)
        for film, line in (([(0, 1)], 0), ([(3, 6), (3, 6)], 1), ([(3, 6), [2, 4], (399, 0)], 2)):
            self.raises_line(line, BadMouth, ("mouth",), passed, Fence(TUB), film)
        self.raises(BadFence, ("fence",), passed, None, None)


class OrderOf(Case):
    def is_order(self, table, places):
        told = order_of(table)
        self.assertIs(type(told), Order)
        self.assertEqual(told.places, tuple(places))
        self.assertTrue(order_of(table=[list(row) for row in table]) == told)

    def is_torn(self, table):
        told, wrong = order_of(table), wrong_pairs(table)
        self.assertIs(type(told), Torn)
        self.assertIn((told.one, told.other), wrong)
        self.assertTrue(order_of(tuple(tuple(row) for row in table)) == told)

    def test_films(self):
        for fence, film in fences_with_films():
            self.is_order(passed(fence, film), places_behind(fence, film))

    def test_drawn_places(self):
        numbers = random.Random(91)
        for many in list(range(3, 12)) * 6:
            places = drawn_places(many, numbers)
            self.is_order(table_by_places(places, 60), places)

    def test_bent_in_one_pair(self):
        numbers = random.Random(92)
        for many in list(range(3, 12)) * 6:
            places = drawn_places(many, numbers)
            table = table_by_places(places, 60)
            i, j = numbers.sample(range(many), 2)
            for by in (1, -1, 2, -7, GREAT):
                bent = table_with(table, i, j, table[i][j] + by)
                if wrong_pairs(bent):
                    self.is_torn(bent)
                else:
                    self.is_order(bent, told_places(bent))

    def test_all_small_tables(self):
        found = {Order: 0, Torn: 0}
        for a in range(-3, 4):
            for b in range(-3, 4):
                for c in range(-3, 4):
                    table = ((0, a, b), (-a, 0, c), (-b, -c, 0))
                    places, many = told_places(table), 3
                    right = len({place % many for place in places}) == many and table == table_by_places(places, 9)
                    self.assertEqual(right, not wrong_pairs(table))
                    if right:
                        self.is_order(table, places)
                    else:
                        self.is_torn(table)
                    found[type(order_of(table))] += 1
        self.assertGreater(min(found.values()), 20)

    def test_places_with_one_remainder(self):
        # The entries of sides 0 and 1 are those of the places, but these leave one remainder.
        table = ((0, 0, 1), (0, 0, 0), (-1, 0, 0))
        self.assertEqual(told_places(table), [1, 1, 1])
        self.is_torn(table)

    def test_numbers_of_any_size(self):
        self.is_torn(((0, GREAT, 0), (-GREAT, 0, 0), (0, 0, 0)))
        places = [0, 1 + 4 * GREAT, 2 - 4 * GREAT, 3]
        table = [[(j - i) // 4 - (b - a) // 4 if i != j else 0 for j, b in enumerate(places)] for i, a in enumerate(places)]
        self.is_order(table, places)

    def test_no_tables(self):
        for table in NO_TABLES:
            self.raises(BadNumber, ("table",), order_of, table)
        for many in (3, 400):
            rows = [[0] * many for _ in range(many)]
            self.is_order(rows, range(many))
            for i, j in ((0, 1), (many - 1, 0), (many - 1, many - 1), (1, 1)):
                rows[i][j] = 1
                self.raises(BadNumber, ("table",), order_of, rows)
                rows[i][j] = 0
        for many in (0, 1, 2, 401, 402):
            self.raises(BadNumber, ("table",), order_of, [[0] * many for _ in range(many)])

    def test_nothing_is_changed(self):
        table = [[0, 0, 2], [0, 0, 0], [-2, 0, 0]]
        self.assertFalse(order_of(table))
        self.assertEqual(table, [[0, 0, 2], [0, 0, 0], [-2, 0, 0]])
        self.raises(BadNumber, ("table",), order_of, ((0, 0, 0), (0, 0, 0), [0, 0]))


class Times(Case):
    def test_short_time(self):
        for fence in (comb(25, 10 ** 5), spiral(49), Fence(slanted(spiral_corners(49), 10 ** 4)), zigzag(199)):
            film = film_out(fence)[:60]
            table = self.is_short(passed, fence, film)
            self.is_short(passes_of, fence)
            self.assertIs(type(self.is_short(order_of, table)), Order)
        fence = comb(100, 10 ** 6)
        table = self.is_short(passed, fence, narrow_mouths(fence, 20))
        self.assertIs(type(self.is_short(order_of, table)), Order)
        self.assertIs(type(self.is_short(order_of, table_with(table, 398, 399, 10 ** 12))), Torn)


if __name__ == "__main__":
    unittest.main()
