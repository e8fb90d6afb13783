import random
import unittest

from baysout.check_passes import shows_order
from baysout.counts import Least, Second
from baysout.errors import BadNumber
from baysout.makes import comb, spiral
from baysout.films import film_out
from baysout.papers import Denial, Paper
from baysout.passes import Order, Torn, order_of, passed
from tests.makers import GREAT, NO_FENCES, NO_INTEGERS, Case
from tests.oracles import table_by_places
from tests.test_passes import NO_TABLES, table_with, told_places, wrong_pairs
from tests.test_tracks import drawn_places

UNEVEN = ((0, 0, 2), (0, 0, 0), (-2, 0, 0))


def tables():
    """Tables of places, and tables of none; pairs of the table and its places, None for none."""
    numbers = random.Random(95)
    for many in list(range(3, 9)) * 5:
        places = drawn_places(many, numbers)
        table = table_by_places(places, 60)
        yield table, places
        i, j = numbers.sample(range(many), 2)
        bent = table_with(table, i, j, table[i][j] + numbers.choice((-2, -1, 1, 3)))
        yield bent, None if wrong_pairs(bent) else told_places(bent)


class ShowsOrder(Case):
    def test_orders(self):
        numbers, right = random.Random(96), 0
        for table, places in tables():
            many = len(table)
            if places is None:
                self.assertIs(shows_order(table, Order(told_places(table))), False)
                self.assertIs(shows_order(table, Order(range(many))), False)
                continue
            right += 1
            self.assertIs(shows_order(table, Order(places)), True)
            self.assertIs(shows_order(value=Order(tuple(places)), table=[list(row) for row in table]), True)
            one, other = numbers.sample(range(many), 2)
            exchanged = list(places)
            exchanged[one], exchanged[other] = exchanged[other], exchanged[one]
            round_on = [place + many for place in places]
            apart = list(places)
            apart[one] += many
            apart[other] -= many
            for bent in (exchanged, round_on, apart, places[:-1], places + [many], places[::-1] if places[::-1] != places else [],
                         [place + 1 for place in places], [], None, True, 0, "".join(str(place) for place in places),
                         dict(enumerate(places)), [str(place) for place in places], [float(place) for place in places],
                         [[place] for place in places], [places], iter(places)):
                self.assertIs(shows_order(table, Order(bent)), False)
        self.assertGreater(right, 30)

    def test_truths_are_no_numbers(self):
        none = ((0, 0, 0),) * 3
        self.assertIs(shows_order(none, Order((0, 1, 2))), True)
        for places in ((0, True, 2), (False, 1, 2), (0, 1.0, 2), (0, 1, 2.0), (False, True, 2)):
            self.assertIs(shows_order(none, Order(places)), False)
        self.assertIs(shows_order(UNEVEN, Torn(0, 1)), True)
        for one, other in ((False, 1), (0, True), (0.0, 1), (0, 1.0), (False, True)):
            self.assertIs(shows_order(UNEVEN, Torn(one, other)), False)

    def test_torn_ones(self):
        found = {True: 0, False: 0}
        for table, _ in tables():
            wrong = wrong_pairs(table)
            many = len(table)
            for one in range(-2, many + 2):
                for other in range(-2, many + 2):
                    right = (one, other) in wrong
                    self.assertIs(shows_order(table, Torn(one, other)), right)
                    found[right] += 1
            self.assertIs(shows_order(table, order_of(table)), True)
        self.assertGreater(found[True], 50)

    def test_torn_where_there_is_an_order(self):
        for table, places in tables():
            if places is not None:
                for one in range(len(table)):
                    for other in range(len(table)):
                        self.assertIs(shows_order(table, Torn(one, other)), False)

    def test_one_remainder(self):
        table = ((0, 0, 1), (0, 0, 0), (-1, 0, 0))
        told = {(one, other): shows_order(table, Torn(one, other)) for one in range(3) for other in range(one + 1, 3)}
        # All three places are 1.
        self.assertEqual(told, {(0, 1): True, (0, 2): True, (1, 2): True})

    def test_other_values(self):
        for table in (UNEVEN, ((0, 0, 0),) * 3):
            told = order_of(table)
            for value in (Paper(told.word, *told.parts), Denial(told.word, *told.parts), told.parts, told.word, Order, Torn,
                          Least([]), Second(), (told,), "order", "torn") + NO_FENCES:
                self.assertIs(shows_order(table, value), False)
        for value in NO_INTEGERS + (GREAT, -1, 3, "1", (1,)):
            self.assertIs(shows_order(UNEVEN, Torn(value, 2)), False)
            self.assertIs(shows_order(UNEVEN, Torn(0, value)), False)
            self.assertIs(shows_order(UNEVEN, Torn(value, value)), False)

    def test_no_tables(self):
        for table in NO_TABLES + ([[0] * 2] * 2, [[0] * 401] * 401):
            for value in (None, Order((0, 1, 2)), Torn(0, 1)):
                self.raises(BadNumber, ("table",), shows_order, table, value)

    def test_short_time(self):
        for fence in (comb(100, 10 ** 6), spiral(199)):
            table = passed(fence, film_out(fence)[:60])
            self.assertIs(self.is_short(shows_order, table, order_of(table)), True)
            bent = table_with(table, 398, 399, 12345)
            self.assertIs(self.is_short(shows_order, bent, order_of(bent)), True)
            self.assertIs(self.is_short(shows_order, bent, order_of(table)), False)


if __name__ == "__main__":
    unittest.main()
