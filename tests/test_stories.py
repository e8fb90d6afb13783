import random
import unittest

from baysout.changed import begun, grown, moved
from baysout.ends import end_of
from baysout.errors import BadFilm, BadMouth
from baysout.fences import Fence
from baysout.films import film_out, stages
from baysout.hulls import is_convex
from baysout.lifts import to_and_fro
from baysout.makes import comb, spiral, zigzag
from baysout.mouths import bay_area2, mouths_of
from baysout.stories import shows_story, story_in, story_of, wrong_line
from baysout.turnings import turned_out
from tests.makers import (
    COMB, NO_FENCES, NOTCH, SQUARE, TUB, Case, fences_of_all_kinds, film_by, narrow_film, narrow_mouths, slanted,
    spiral_corners,
)
from tests.test_films import NO_FILMS, NO_PAIRS
from tests.test_tracks import CURVED, fences_with_films

NO_LISTS = (None, True, False, 0, 1.0, "", "fence 0 0 / 1 0 / 0 1", b"fence", {}, {"fence"}, {"fence": 1}, object(),
            iter(["fence"]), range(0), [None], ["fence", 5], ("fence", b"out"), [["fence"]], [True], [("fence",)],
            ["fence 0 0 / 1 0 / 0 1", None], Fence(SQUARE), [Fence(SQUARE)])


def told_slowly(fence, film):
    """The story of a fence by a film, item by item, by the functions of other modules."""
    lines, rows = ["fence " + str(fence)], stages(fence, film)
    for (p, q), one, other in zip(film, rows, rows[1:]):
        items = ["out", p, q, ":", "bay", bay_area2(one, (p, q)), ",", "land", one.area2, "to", other.area2, ",", "to", "and",
                 "fro", to_and_fro(one), "to", to_and_fro(other)]
        lines.append(" ".join(str(item) for item in items))
    lines.append(("ends in " if is_convex(rows[-1]) else "goes on to ") + str(end_of(fence)))
    return tuple(lines)


def first_wrong(lines):
    """The first line with which no story begins: each beginning is compared with those of all stories there are."""
    begin = "fence "
    try:
        fence = Fence.read(lines[0][len(begin):])
    except (IndexError, ValueError):
        return 0
    if not lines[0].startswith(begin):
        return 0
    film, there = [], fence
    for at, line in enumerate(lines[1:], start=1):
        if line == told_slowly(fence, film)[-1]:
            return None if at == len(lines) - 1 else at + 1
        fitting = [mouth for mouth in mouths_of(there) if told_slowly(fence, film + [mouth])[at] == line]
        if not fitting:
            return at
        film.append(fitting[0])
        there = turned_out(there, fitting[0])
    return len(lines)


def some_stories(part):
    """Fences with the stories of films of theirs, some of all: short enough to be bent again and again."""
    numbers = random.Random(121)
    for fence, film in fences_with_films():
        if fence.many < 9 and numbers.random() < part:
            yield fence, list(told_slowly(fence, film[:4]))


class Stories(Case):
    def test_line_by_line(self):
        ended, level = set(), 0
        for fence, film in fences_with_films():
            told = story_of(fence, film)
            self.assertEqual(told, told_slowly(fence, film))
            self.assertIs(type(told), tuple)
            self.assertIsNone(wrong_line(told))
            self.assertEqual(story_in(told), (fence, tuple(film)))
            self.assertIs(shows_story(fence, told), True)
            ended.add((told[-1].split(" ")[0], min(len(film), 2)))
            level += any(line.split(" ")[-3] == line.split(" ")[-1] for line in told[1:-1])
        self.assertEqual(ended, {(word, many) for word in ("ends", "goes") for many in (0, 1, 2)})
        # At some turnings of mouths that are no first ones to and fro stays.
        self.assertGreater(level, 5)

    def test_by_hand(self):
        self.assertEqual(story_of(fence=Fence(SQUARE), film=[]), ("fence 0 0 / 4 0 / 4 4 / 0 4", "ends in 0 0 / 4 0 / 4 4 / 0 4"))
        self.assertEqual(story_of(begun(Fence(SQUARE), 2), ())[1], "ends in 0 0 / 4 0 / 4 4 / 0 4")
        self.assertEqual(story_of(Fence(CURVED), [[2, 4]]), (
            "fence 4 0 / 3 2 / 4 3 / 1 2 / 2 3 / 0 2", "out 2 4 : bay 2 , land 9 to 13 , to and fro 11 to 7",
            f"goes on to {end_of(Fence(CURVED))}"))

    def test_facts(self):
        numbers = random.Random(122)
        for fence in fences_of_all_kinds()[::2]:
            lasts, whole = set(), set()
            for _ in range(3):
                film = film_by(fence, mouths_of, numbers)
                for line in story_of(fence, film)[1:-1]:
                    items = line.split(" ")
                    bay, ahead, behind = int(items[5]), int(items[8]), int(items[10])
                    self.assertEqual(behind, ahead + 2 * bay)
                    self.assertLessEqual(int(items[17]), int(items[15]))
                lasts.add(story_of(fence, film)[-1])
                whole.add(story_of(fence, film[:1])[-1].replace("ends in", "goes on to"))
            self.assertEqual(len(lasts), 1)
            self.assertEqual(whole, {line.replace("ends in", "goes on to") for line in lasts})

    def test_two_films_have_unlike_stories(self):
        for fence in (Fence(CURVED), Fence(TUB), Fence(COMB)):
            stories = {}
            for one in mouths_of(fence):
                for other in mouths_of(turned_out(fence, one)):
                    for film in ((one,), (one, other)):
                        self.assertEqual(stories.setdefault(story_of(fence, film), film), film)
            for told, film in stories.items():
                self.assertEqual(story_in(told), (fence, film))

    def test_errors(self):
        self.no_fence_first(story_of, None)
        for film in NO_FILMS + tuple([pair] for pair in NO_PAIRS):
            self.raises(BadFilm, ("film",), story_of, Fence(TUB), film)
        for film, line in (([(0, 1)], 0), ([(3, 6), (3, 6)], 1), ([(3, 6), [2, 4], (399, 0)], 2)):
            self.raises_line(line, BadMouth, ("mouth",), story_of, Fence(TUB), film)


class WrongLines(Case):
    def is_wrong(self, lines, at):
        self.assertEqual(wrong_line(lines), at)
        self.assertEqual(wrong_line(tuple(lines)), at)
        if at is not None:
            self.raises(BadFilm, ("lines",), story_in, lines)

    def test_left_out_twice_exchanged(self):
        seen = set()
        for fence, lines in some_stories(0.2):
            self.is_wrong(lines, None)
            for at in range(len(lines)):
                for bent in (lines[:at] + lines[at + 1:], lines[:at] + lines[at:at + 1] + lines[at:], lines[:at], lines[at:],
                             lines[:at] + lines[at + 1:at + 2] + lines[at:at + 1] + lines[at + 2:], lines[:at] + ["more"] + lines[at:],
                             lines[:at] + [""] + lines[at:]):
                    wrong = first_wrong(bent)
                    self.is_wrong(bent, wrong)
                    seen.add((wrong is None, wrong == len(bent)))
                    self.assertIs(shows_story(fence, bent), wrong is None and bent[0] == lines[0])
            self.is_wrong(lines + ["more"], len(lines))
            self.is_wrong(lines + lines[-1:], len(lines))
            self.is_wrong(lines + lines, len(lines))
        # Some are stories still, some go on, most are wrong somewhere.
        self.assertEqual(seen, {(True, False), (False, True), (False, False)})

    def test_each_item_bent(self):
        numbers = random.Random(123)
        for _, lines in some_stories(0.1):
            for at in range(1, len(lines)):
                items = lines[at].split(" ")
                for k, item in enumerate(items):
                    others = ["", "x", "+" + item, item + "0", "0" + item, item + " ", " " + item, item + "\n", item.upper() + "X"]
                    if item.lstrip("-").isdigit():
                        others += [str(int(item) + 1), str(int(item) - 1), str(-int(item) - 1), item + ".0", "9" * 150]
                    for other in numbers.sample(others, min(4, len(others))):
                        bent = lines[:at] + [" ".join(items[:k] + [other] + items[k + 1:])] + lines[at + 1:]
                        self.assertEqual(wrong_line(bent), first_wrong(bent) if k in (1, 2) else at)
                    bent = lines[:at] + [" ".join(items[:k] + items[k + 1:])] + lines[at + 1:]
                    self.assertEqual(wrong_line(bent), at)
                    bent = lines[:at] + [" ".join(items[:k])] + lines[at + 1:]
                    self.assertEqual(wrong_line(bent), at)
                for bent in (lines[at] + " ", " " + lines[at], lines[at] + " .", lines[at].replace(" ", "  ", 1), lines[at] + "\n"):
                    self.assertEqual(wrong_line(lines[:at] + [bent] + lines[at + 1:]), at)

    def test_first_lines(self):
        right = list(story_of(Fence(NOTCH), [(2, 4)]))
        for line in (
            "", "fence", "fence ", "fence  ", "Fence 0 0 / 4 0 / 4 4 / 2 2 / 0 4", "0 0 / 4 0 / 4 4 / 2 2 / 0 4",
            " fence 0 0 / 4 0 / 4 4 / 2 2 / 0 4", "fence 0 0 / 4 0 / 4 4 / 2 2 / 0 4 ", "fence 0 0 / 4 0", "fence 0 0 / 1 0",
            "fence  0 0 / 4 0 / 4 4 / 2 2 / 0 4", "fence 0 0 / 4 0 / 4 4 / 2 2 / 0 04", "fence 0 0 / 4 0 / 4 4 / 2 2 / -0 4",
            "fence 0 0 / 0 4 / 4 4 / 4 0", "fence 0 0 / 4 0 / 0 4 / 4 4", "fence 0 0 / 4 0 / 4 4 / 2 2 / 0 4 / 0 3 / 0 4",
            "fence 0 0 / 4 0 / 4 4 / 2 2 / 0 4\n", "fence\t0 0 / 4 0 / 4 4 / 2 2 / 0 4", "fence 0 0 / 4 0 / 0 " + "9" * 141,
            "fences 0 0 / 4 0 / 4 4 / 2 2 / 0 4", "out 2 4", "ends in 0 0 / 4 0 / 4 4 / 2 6 / 0 4",
        ):
            self.is_wrong([line], 0)
            self.is_wrong([line] + right[1:], 0)
            self.is_wrong([line, "more"], 0)
        self.is_wrong([], 0)
        self.is_wrong(right[:1], 1)
        self.is_wrong(right[1:], 0)
        far = "9" * 140
        self.is_wrong([f"fence 0 0 / {far} 0 / 0 {far}"], 1)
        self.is_wrong([f"fence 0 0 / {far} 0 / 0 {far}", f"ends in 0 0 / {far} 0 / 0 {far}"], None)

    def test_lines_of_others(self):
        notch, tub = Fence(NOTCH), Fence(TUB)
        one, other = list(story_of(tub, [(2, 6), (4, 7)])), list(story_of(tub, [(3, 6), (2, 4), (5, 7)]))
        self.is_wrong(one[:2] + other[2:], 2)
        self.is_wrong(other[:2] + one[2:], 2)
        self.is_wrong(other[:1] + one[1:], None)
        self.is_wrong(other[:3] + one[2:], 3)
        self.is_wrong(story_of(notch, [(2, 4)])[:1] + tuple(one[1:]), 1)
        self.is_wrong(one[:1] + list(story_of(notch, [(2, 4)])[1:]), 1)
        # The field of another one, or begun elsewhere, or the right one with the wrong words.
        for last in ("ends in 0 0 / 4 0 / 4 4 / 2 6 / 0 4", "ends in 6 0 / 6 10 / 0 10 / 0 0", "goes on to 0 0 / 6 0 / 6 10 / 0 10",
                     "ends in 0 0 / 6 0 / 6 10 / 0 10 / 0 6", "ends in", "ends 0 0 / 6 0 / 6 10 / 0 10",
                     "ends to 0 0 / 6 0 / 6 10 / 0 10", "goes on in 0 0 / 6 0 / 6 10 / 0 10"):
            self.is_wrong(one[:-1] + [last], 3)
        self.is_wrong(one[:-1] + ["ends in 0 0 / 6 0 / 6 10 / 0 10"], None)
        self.is_wrong(one[:2] + ["ends in 0 0 / 6 0 / 6 10 / 0 10"], 2)
        self.is_wrong(one[:2] + ["goes on to 0 0 / 6 0 / 6 10 / 0 10"], None)
        self.is_wrong(one[:2] + ["goes on to 0 0 / 6 0 / 6 10 / 0 10"] + one[2:], 3)

    def test_no_lists(self):
        for value in NO_LISTS:
            self.raises(BadFilm, ("lines",), wrong_line, value)
            self.raises(BadFilm, ("lines",), story_in, value)
            self.assertIs(shows_story(Fence(NOTCH), value), False)

    def test_great_numbers(self):
        for fence in (grown(Fence(NOTCH), 10 ** 100), moved(Fence(TUB), (10 ** 139, -10 ** 139))):
            told = story_of(fence, film_out(fence))
            self.assertEqual(told, told_slowly(fence, film_out(fence)))
            self.is_wrong(told, None)

    def test_a_thousand_turnings(self):
        rows, film = narrow_film()
        self.assertGreater(len(film), 1000)
        fence = Fence(rows[0])
        told = list(story_of(fence, film[:1000]))
        self.assertEqual(len(told), 1002)
        # One turning more would be one beside what a film may have.
        line = story_of(Fence(rows[1000]), [film[1000]])[1]
        wrong = told[:-1] + [line, told[-1]]
        self.assertEqual(wrong_line(wrong), 1001)
        self.assertEqual(wrong_line([f"fence {Fence(rows[1000])}", line]), 2)

    def test_nothing_is_changed(self):
        lines, film = list(story_of(Fence(NOTCH), [(2, 4)])), [[2, 4]]
        before = list(lines)
        wrong_line(lines)
        story_in(lines)
        shows_story(Fence(NOTCH), lines)
        story_of(Fence(NOTCH), film)
        self.assertEqual([lines, film], [before, [[2, 4]]])


class StoryIn(Case):
    def test_kinds(self):
        told = story_in(lines=list(story_of(Fence(NOTCH), [[2, 4]])))
        self.assertEqual([type(told), type(told[0]), told[1]], [tuple, Fence, ((2, 4),)])
        self.assertTrue(told[0] == Fence(NOTCH))
        self.assertEqual(story_in(story_of(Fence(SQUARE), []))[1], ())

    def test_shows(self):
        notch, tub = Fence(NOTCH), Fence(TUB)
        for fence, film in ((notch, []), (notch, [(2, 4)]), (tub, [(3, 6)]), (tub, [(2, 6), (4, 7)])):
            told = story_of(fence, film)
            self.assertIs(shows_story(fence, told), True)
            self.assertIs(shows_story(value=list(told), fence=fence), True)
            for other in (notch, tub, begun(fence, 1), moved(fence, (1, 0)), Fence(SQUARE)):
                self.assertIs(shows_story(other, told), other == fence)
            for value in (told[:-1], told[1:], told + ("more",), (), [], "\n".join(told), dict(enumerate(told)), iter(told)):
                self.assertIs(shows_story(fence, value), False)
        for value in NO_FENCES:
            self.assertIs(shows_story(notch, value), False)
        for value in (story_of(notch, []), None):
            self.no_fence_first(shows_story, value)


class Times(Case):
    def test_short_time(self):
        for fence in (comb(25, 10 ** 5), spiral(49), Fence(slanted(spiral_corners(49), 10 ** 4)), zigzag(49)):
            for film in (film_out(fence)[:60], narrow_mouths(fence, 60 if fence == comb(25, 10 ** 5) else 40)):
                told = self.is_short(story_of, fence, film)
                self.assertIsNone(self.is_short(wrong_line, told))
                self.assertEqual(self.is_short(story_in, told)[1], tuple(film))
                self.assertIs(self.is_short(shows_story, fence, told), True)
        self.assertEqual(self.is_short(wrong_line, ["fence 0 0 / 1 0 / 0 1"] + ["out 0 1"] * 5000), 1)


if __name__ == "__main__":
    unittest.main()
