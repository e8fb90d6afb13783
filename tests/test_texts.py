import unittest

from baysout.errors import BadText
from baysout.fences import Fence
from tests.makers import (
    COMB, GREAT, HOOK, NOTCH, SQUARE, Case, comb_corners, fences_of_all_kinds, slanted, spiral_corners,
)

TRIANGLE = "0 0 / 4 0 / 0 4"


class Texts(Case):
    def bad(self, item, text):
        with self.subTest(text=text):
            self.raises(BadText, (0, item), Fence.read, text)

    def test_str(self):
        self.assertEqual(str(Fence(NOTCH)), "0 0 / 4 0 / 4 4 / 2 2 / 0 4")
        self.assertEqual(str(Fence(((-3, 0), (10, -20), (0, 5)))), "-3 0 / 10 -20 / 0 5")

    def test_str_of_numbers_of_any_size(self):
        for digits in (139, 895, 896, 897, 4299, 4300, 4301, 5000, 30000):
            great = 10 ** digits
            text = str(Fence(((-great - 7, 0), (great, 0), (0, great + 10 ** (digits // 2)))))
            zeros = "0" * (digits - 1)
            wanted = f"-1{zeros}7 0 / 1{zeros}0 0 / 0 1" + "0" * (digits - digits // 2 - 1) + "1" + "0" * (digits // 2)
            self.assertEqual(text, wanted)

    def test_read_back_the_same(self):
        fences = fences_of_all_kinds() + [Fence([(x * GREAT - 1, y * -GREAT) for x, y in HOOK[::-1]])]
        for fence in fences:
            again = Fence.read(str(fence))
            self.assertTrue(again == fence)
            self.assertIs(type(again), Fence)
            self.assertEqual((again.many, again.sides, again.area2), (fence.many, fence.sides, fence.area2))
            self.assertEqual(str(again), str(fence))
        self.assertEqual(Fence.read(text=TRIANGLE).corners, ((0, 0), (4, 0), (0, 4)))
        self.assertEqual(Fence(SQUARE).read(TRIANGLE).corners, ((0, 0), (4, 0), (0, 4)))

    def test_no_strings(self):
        for value in (None, True, 0, 5, b"0 0 / 4 0 / 0 4", [], ["0", "0"], NOTCH, Fence(NOTCH), {}, 1.5, object()):
            self.bad(0, value)

    def test_empty_items(self):
        self.bad(0, "")
        self.bad(0, " ")
        self.bad(0, " " + TRIANGLE)
        self.bad(8, TRIANGLE + " ")
        self.bad(8, TRIANGLE + "  ")
        items = TRIANGLE.split(" ")
        for at in range(1, len(items)):
            self.bad(at, " ".join(items[:at]) + "  " + " ".join(items[at:]))

    def test_each_kind_of_item_at_each_place(self):
        items = TRIANGLE.split(" ")
        wrong = ("+4", "04", "00", "-0", "-00", "-04", "--4", "4-", "-", "+", "x", "0x1", "1_0", "4.0", "1e1", "4,",
                 "/4", "//", "|", "", "\t4", "4\n", "\n", "\u0664", "\u00b2", "\uff14", "True", "1" * 141,
                 "-" + "1" * 141)
        for at in range(len(items)):
            for item in wrong + (("4", "0", "-1") if at % 3 == 2 else ("/",)):
                self.bad(at, " ".join(items[:at] + [item] + items[at + 1:]))
                self.bad(at, " ".join(items[:at] + [item]))

    def test_other_blanks_are_none(self):
        self.bad(0, "0\t0 / 4 0 / 0 4")
        self.bad(1, "0 0\n/ 4 0 / 0 4")
        self.bad(0, TRIANGLE.replace(" ", "\n"))
        self.bad(7, TRIANGLE + "\n")
        self.bad(7, TRIANGLE + "/ 0 2")
        self.bad(1, TRIANGLE.replace(" /", "/"))

    def test_the_first_one_that_cannot_stand(self):
        self.bad(1, "0 x / y 0 / 0 4")
        self.bad(2, "0 0 0 0")
        self.bad(4, "0 0 / 4 +0 / z 4 / 9")
        self.bad(8, TRIANGLE + " 5 x")

    def test_digits(self):
        great = "9" * 140
        fence = Fence.read(f"-{great} 0 / {great} -1 / 0 {great}")
        self.assertEqual(fence.corners, ((-10 ** 140 + 1, 0), (10 ** 140 - 1, -1), (0, 10 ** 140 - 1)))
        self.bad(0, f"-{great}9 0 / {great} -1 / 0 {great}")
        self.bad(3, f"-{great} 0 / {great}0 -1 / 0 {great}")
        self.bad(7, f"-{great} 0 / {great} -1 / 0 1{great}")
        self.bad(7, f"-{great} 0 / {great} -1 / 0 " + "1" * 15000)

    def test_items_missing(self):
        items = "0 0 / 4 0 / 4 4 / 0 4".split(" ")
        for many in range(1, len(items)):
            if many != 8:
                self.bad(many, " ".join(items[:many]))
        self.assertEqual(Fence.read(" ".join(items[:8])).many, 3)
        self.bad(2, "0 0")
        self.bad(5, "0 0 / 4 0")
        self.bad(5, "0 0 / 0 0")

    def test_no_fence_shows_at_the_last_item(self):
        for corners in (
            ((0, 0), (4, 0), (2, 0)), ((0, 0), (0, 4), (4, 4), (4, 0)), ((0, 0), (4, 0), (0, 4), (4, 4)),
            ((0, 0), (0, 0), (4, 4)), ((0, 0), (4, 0), (4, 4), (4, 0)), ((0, 0), (4, 0), (4, 4), (2, 0), (0, 4)),
        ):
            text = " / ".join(f"{x} {y}" for x, y in corners)
            self.bad(3 * len(corners) - 2, text)

    def test_400_corners_and_more(self):
        rim = [(x, 0) for x in range(199)] + [(x, 1) for x in range(200, -1, -1)]
        text = " / ".join(f"{x} {y}" for x, y in rim)
        self.assertEqual(Fence.read(text).many, 400)
        for more in (" /", " / 0", " / 0 0", " / x", " 5", " ", " / -1 1 / 0 0", " / / /"):
            self.bad(1199, text + more)
        self.bad(1198, text[:-1] + "+1")
        self.bad(1198, text[:-1] + "0")
        self.bad(1198, " / ".join(["0 0"] * 400))
        self.bad(1199, " / ".join(["0 0"] * 401))

    def test_short_time(self):
        for row in (comb_corners(400, 10 ** 15), slanted(comb_corners(400, 10 ** 6)), spiral_corners(199)):
            fence = Fence(row)
            text = self.is_short(str, fence)
            self.assertTrue(self.is_short(Fence.read, text) == fence)
        row = [(x * 10 ** 100, y * 10 ** 100) for x, y in slanted(COMB)]
        self.is_short(Fence.read, str(Fence(row)))


if __name__ == "__main__":
    unittest.main()
