import itertools
import random
import unittest

from baysout.changed import begun, grown, moved, turned, with_corner
from baysout.errors import BadFence, BadWord, Misfit, TooMany
from baysout.fences import Fence
from baysout.outlines import turn_at
from baysout.words import fence_of, word_of
from tests.makers import (
    COMB, GREAT, HOOK, NO_FENCES, NOTCH, RULED, SQUARE, TUB, Case, comb_corners, fence_or_none, points_on_sides,
    spiral_corners,
)
from tests.oracles import is_fence_row, word_corners

UNIT = "flflflf"


def fence_told(word):
    """The corners of the fence of a word, None if it has none, in a slow way."""
    corners = word_corners(word)
    if corners is None or fence_or_none(corners) is None:
        return None
    return tuple(corners)


def stairs_word(steps):
    """The word of stairs of so many steps, with twice as many corners and two more."""
    return "f" * steps + "lflf" + "rflf" * (steps - 1) + "l" + "f" * steps


def bumped_words(many):
    """Words of fences of all forms: bumps are put into a rectangle where they may be."""
    numbers, words = random.Random(32), []
    while len(words) < many:
        wide, high = numbers.randint(1, 5), numbers.randint(1, 5)
        word = "l".join("f" * length for length in (wide, high, wide, high))
        for _ in range(numbers.randrange(25)):
            at = numbers.choice([at for at, letter in enumerate(word) if letter == "f"])
            bump = numbers.choice(("lfrfrfl", "rflflfr", "lffrfrffl", "rfflflffr"))
            other = word[:at] + bump + word[at + 1:]
            if fence_told(other) is not None:
                word = other
        # As if turned at first, and begun at another letter of the walk.
        at = numbers.randrange(len(word) + 1)
        words.append(numbers.choice(("", "l", "ll", "r")) + word[at:] + "l" + word[:at])
    return [word for word in words if fence_told(word) is not None]


def with_turns(word, numbers):
    """The word with letters put in that turn back and forth, or all the way round, at each place."""
    pieces = []
    for letter in word:
        pieces.append(numbers.choice(("", "lr", "rl", "llll", "rrrr", "lrrl", "lllrlrlrrr", "lllllrrrrr")))
        pieces.append({"l": numbers.choice(("l", "rrr", "lllll", "rll")), "r": numbers.choice(("r", "lll", "rrrrr")),
                       "f": "f"}[letter])
    return "".join(pieces) + numbers.choice(("", "l", "rr", "lrl", "lll", "rrrrrr"))


class FenceOf(Case):
    def none(self, word):
        self.raises(Misfit, ("word",), fence_of, word)

    def test_by_hand(self):
        for word, corners in (
            (UNIT, ((0, 0), (1, 0), (1, 1), (0, 1))),
            ("lflflflf", ((0, 0), (0, 1), (-1, 1), (-1, 0))),
            ("llflflflf", ((0, 0), (-1, 0), (-1, -1), (0, -1))),
            ("rflflflf", ((0, 0), (0, -1), (1, -1), (1, 0))),
            # Corner 0 is a straight one; no other one ever is.
            ("flfflfflfflf", ((0, 0), (1, 0), (1, 2), (-1, 2), (-1, 0))),
            ("ffflfflffflff", ((0, 0), (3, 0), (3, 2), (0, 2))),
            ("fflflfrflflff", ((0, 0), (2, 0), (2, 1), (1, 1), (1, 2), (0, 2))),
            # Letters that turn back and forth, and more than once round.
            ("lrflllllfrrrfllrfrl", ((0, 0), (1, 0), (1, 1), (0, 1))),
        ):
            self.assertEqual(fence_of(word).corners, corners)
            self.assertEqual(fence_of(word=word).corners, fence_told(word))

    def test_all_short_words(self):
        found = 0
        for many in range(1, 10):
            for letters in itertools.product("flr", repeat=many):
                word = "".join(letters)
                told = fence_told(word)
                if told is None:
                    self.none(word)
                else:
                    self.assertEqual(fence_of(word).corners, told)
                    found += 1
        # The unit square has 7 letters; up to two more turn ahead of it, at its corners, or behind.
        self.assertGreater(found, 30)

    def test_words_of_all_forms(self):
        numbers, straight = random.Random(33), 0
        for word in bumped_words(150):
            fence = fence_of(word)
            self.assertIsInstance(fence, Fence)
            self.assertEqual(fence.corners, fence_told(word))
            self.assertEqual(fence.corners[0], (0, 0))
            self.assertTrue(all(turn_at(fence.corners, at) != 0 for at in range(1, fence.many)))
            straight += turn_at(fence.corners, 0) == 0
            for _ in range(3):
                self.assertTrue(fence_of(with_turns(word, numbers)[:2000]) == fence)
        self.assertGreater(straight, 20)

    def test_against_what_a_fence_is(self):
        for word in bumped_words(20):
            self.assertTrue(is_fence_row(fence_of(word).corners))

    def test_more_rounds_at_a_corner(self):
        for at in (1, 3, 5):
            for turns in ("lllll", "lllllllll", "rrr", "rrrrrrr", "lrl", "rll", "llr"):
                self.assertEqual(fence_of(UNIT[:at] + turns + UNIT[at + 1:]).corners, fence_of(UNIT).corners)
            for turns in ("", "llll", "r", "ll", "lr", "lllllr"):
                self.none(UNIT[:at] + turns + UNIT[at + 1:])
        for behind in ("l", "r", "ll", "rrrr", "lrlrl", "l" * 100):
            self.assertEqual(fence_of(UNIT + behind).corners, fence_of(UNIT).corners)

    def test_words_without_a_fence(self):
        for word in (
            "l", "r", "lr", "llll", "r" * 2000,                                    # no letter f
            "f", "ff", "fflfflff", "fflfflffl", "flflflff", "fflfflfflf",          # they don't come back
            "fllf", "fflllflfllfrff", "ffllff", "lffllff",                         # straight back
            "ffrffrffrff", "frfrfrf", "rfrfrfrf", "lfrfrfrf",                      # round to the right
            UNIT + "l" + UNIT, UNIT + UNIT, UNIT + "ll" + UNIT, UNIT * 3,          # more than once round
            "fflffrflflfflfflfflff", "flflflfrfrfrfrf", "flflflfflflflf",          # they meet themselves
        ):
            self.assertIsNone(fence_told(word), word)
            self.none(word)
        for word in bumped_words(60):
            self.none(word.replace("l", "x").replace("r", "l").replace("x", "r"))
            self.none(word + "f")
            self.none("f" + word)
            at = word.rindex("f")
            self.none(word[:at] + word[at + 1:])
            self.none(word + "lrll" + word)

    def test_no_words(self):
        for word in (None, True, False, 0, 7, 1.0, "", b"f", b"flflflf", ["f"], list(UNIT), tuple(UNIT), {}, set(UNIT),
                     object(), Fence(SQUARE), " ", "F", "FLFLFLF", "flflflF", "Lflflflf", "flflfl f", " " + UNIT,
                     UNIT + " ", UNIT + "\n", "b" + UNIT, UNIT + "x", "fl-flf", "fl\u017fflf", "f\u0142", "1", "e",
                     UNIT + "\x00", iter(UNIT)):
            self.raises(BadWord, ("word",), fence_of, word)
        for at in range(len(UNIT)):
            for letter in ("F", "L", "R", "s", "x", " ", "/", "-", "0"):
                self.raises(BadWord, ("word",), fence_of, UNIT[:at] + letter + UNIT[at + 1:])

    def test_two_thousand_letters(self):
        square = "l".join(["f" * 499] * 4)
        self.assertEqual(len(square), 1999)
        corners = ((0, 0), (499, 0), (499, 499), (0, 499))
        self.assertEqual(fence_of(square).corners, corners)
        self.assertEqual(fence_of(square + "r").corners, corners)
        for more in ("rl", "lll", "f" * 10, "l" * 5000):
            self.raises(BadWord, ("word",), fence_of, square + more)
        self.raises(BadWord, ("word",), fence_of, "x" * 2000)
        self.raises(BadWord, ("word",), fence_of, "l" * 2001)
        self.none("l" * 2000)
        self.none("f" * 2000)

    def test_400_corners(self):
        for steps, many in ((198, 398), (199, 400)):
            fence = fence_of(stairs_word(steps))
            self.assertEqual(fence.many, many)
            self.assertEqual(fence.corners, fence_told(stairs_word(steps)))
        for steps in (200, 201, 300):
            self.assertLessEqual(len(stairs_word(steps)), 2000)
            self.none(stairs_word(steps))


class WordOf(Case):
    def test_by_hand(self):
        for corners, word in (
            (SQUARE, "fffflfffflfffflffff"),
            (((5, 5), (7, 5), (7, 6), (5, 6)), "fflflfflf"),
            (((7, 5), (7, 6), (5, 6), (5, 5)), "lflfflflff"),
            (((7, 6), (5, 6), (5, 5), (7, 5)), "llfflflfflf"),
            (((5, 6), (5, 5), (7, 5), (7, 6)), "rflfflflff"),
            # Straight corners: just one side behind the other.
            (((7, 6), (5, 6), (5, 5), (6, 5), (7, 5)), "llfflflfflf"),
            (((6, 5), (7, 5), (7, 6), (5, 6), (5, 5)), "flflfflflf"),
            (RULED, "fffflfffffflfffffflfffffflff"),
            (((0, 0), (2, 0), (2, 1), (1, 1), (1, 2), (0, 2)), "fflflfrflflff"),
        ):
            self.assertEqual(word_of(Fence(corners)), word)
            self.assertEqual(word_of(fence=moved(Fence(corners), (-GREAT, 3))), word)

    def fences(self):
        fences = [fence_of(word) for word in bumped_words(60)]
        return fences + [Fence(row) for row in (SQUARE, TUB, HOOK, RULED, spiral_corners(9), comb_corners(20, 4))]

    def test_begun_at_each_corner_each_way(self):
        firsts = set()
        for fence in self.fences():
            for at in range(fence.many):
                there = begun(fence, at)
                for quarters in range(4):
                    other = turned(there, quarters)
                    word = word_of(other)
                    self.assertEqual(word, self.letters(other))
                    self.is_word_of(word, other)
                    firsts.add(word[:word.index("f")])
        self.assertEqual(firsts, {"", "l", "ll", "r"})

    def letters(self, fence):
        """The word of a fence, told unit by unit."""
        ways = {(1, 0): 0, (0, 1): 1, (-1, 0): 2, (0, -1): 3}
        units = []
        for x, y in fence.sides:
            length = abs(x + y)
            units += [ways[(x // length, y // length)]] * length
        word = ("", "l", "ll", "r")[units[0]]
        for one, other in zip(units, units[1:]):
            word += "f" + {0: "", 1: "l", 3: "r"}[(other - one) % 4]
        return word + "f"

    def is_word_of(self, word, fence):
        """Checks that the fence of the word is this one, moved, without its straight corners but corner 0."""
        a, b = fence.corners[0]
        kept = [corner for at, corner in enumerate(fence.corners) if at == 0 or turn_at(fence.corners, at) != 0]
        self.assertEqual(fence_of(word).corners, tuple((x - a, y - b) for x, y in kept))

    def test_straight_corners(self):
        for fence in self.fences():
            fence = grown(fence, 2)
            word = word_of(fence)
            for at, x, y in points_on_sides(fence):
                more = with_corner(fence, at, (x, y))
                self.assertEqual(word_of(more), word)
                self.is_word_of(word_of(begun(more, at + 1)), begun(more, at + 1))

    def test_slanted_sides(self):
        for row in (NOTCH, COMB, ((0, 0), (2, 1), (0, 2)), ((0, 0), (2, 0), (2, 2), (1, 3), (0, 2))):
            for at in range(len(row)):
                for factor in (1, 7, GREAT):
                    self.raises(Misfit, ("fence",), word_of, grown(begun(Fence(row), at), factor))

    def test_two_thousand_letters(self):
        # 3 letters turn between the sides, and 0 to 2 ahead of them.
        rectangle = Fence(((0, 0), (500, 0), (500, 498), (0, 498)))
        for at, letters in ((0, 1999), (1, 2000), (3, 2000)):
            word = word_of(begun(rectangle, at))
            self.assertEqual(len(word), letters)
            self.is_word_of(word, begun(rectangle, at))
        self.raises(TooMany, ("letters", 2000), word_of, begun(rectangle, 2))
        self.raises(TooMany, ("letters", 2000), word_of, Fence(((0, 0), (500, 0), (500, 499), (0, 499))))
        # Begun on a side there is one corner more to turn at.
        more = with_corner(Fence(((0, 0), (499, 0), (499, 499), (0, 499))), 0, (7, 0))
        self.assertEqual([len(word_of(more)), len(word_of(begun(more, 1)))], [1999, 2000])
        for fence in (grown(rectangle, 2), grown(Fence(SQUARE), GREAT), Fence(spiral_corners(199))):
            self.raises(TooMany, ("letters", 2000), word_of, fence)

    def test_fences_wanted(self):
        self.no_fence_first(word_of)
        for value in NO_FENCES + (UNIT,):
            self.raises(BadFence, ("fence",), word_of, value)


class Times(Case):
    def test_short_time(self):
        for word in (stairs_word(199), stairs_word(300), "l".join(["f" * 499] * 4), "fl" * 1000, "f" * 2000, "flr" * 600,
                     "l".join(["f" * 100] * 4) + "lr" * 798):
            try:
                fence = self.is_short(fence_of, word)
                self.is_short(word_of, fence)
            except Misfit:
                pass
        self.is_short(word_of, Fence(comb_corners(400, 2)))


if __name__ == "__main__":
    unittest.main()
