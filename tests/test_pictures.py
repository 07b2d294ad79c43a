"""Pictures, and the texts of layouts and settings [13]."""

import unittest

from claimduel.claim_texts import read_claim
from claimduel.layouts import Layout
from claimduel.pictures import layout_text, picture, setting_text
from claimduel.questions import all_for
from reckoning import plain_so
from support import BAD_CLAIMS, BAD_NAMES, BAD_NUMBERS, BAD_SETTINGS, ODD_VALUES, Odd, below, chance, random_bound, random_literal
from support import random_tree, rests, told, zero

GAP = read_claim("( not 1 n + 0 < 0 and not some a : some b : ( not 1 a + 0 < 0 and not 1 b + 0 < 0 and 3 a + 5 b + -1 n + 0 = 0 ) )")


class PictureTest(unittest.TestCase):
    def test_by_hand(self):
        self.assertEqual(picture(GAP, "n", {}, 0, 9), ".##.#..#..")
        self.assertEqual(picture(GAP, "n", {"n": 4, "q": 1}, -3, 1), "....#")
        self.assertEqual(picture(("yes",), "n", (), -10 ** 40, -10 ** 40 + 2), "###")
        self.assertEqual(picture(("no",), "n", (), 7, 7), ".")
        self.assertEqual(picture(zero(-10 ** 40, n=1, x=1), name="x", setting=[("n", 3)], first=10 ** 40 - 5,
                                 last=10 ** 40), "..#...")

    def test_at_random(self):
        luck = chance(250)
        for _ in range(150):
            claim = random_tree(luck, [random_literal(luck, "nxy", ms=(2, 3, 4, 12), factors=(-3, -2, -1, 1, 2, 3))
                                       for _ in range(4)])
            first = luck.choice((luck.randint(-30, 9), -10 ** 40, 10 ** 40 - 3))
            last = first + luck.choice((0, 1, 30, 199))
            setting = {"n": luck.randint(-9, 9), "y": luck.choice((3, -10 ** 40, 10 ** 40))}
            signs = "".join("#" if plain_so(claim, {**setting, "x": number}) else "."
                            for number in range(first, last + 1))
            self.assertEqual(picture(claim, "x", setting, first, last), signs)

    def test_bound_names(self):
        luck = chance(251)
        for _ in range(40):
            claim = random_bound(luck, random_tree(luck, [random_literal(luck, "nxy") for _ in range(3)]), "y")
            right = all_for(claim, "x", {"n": 4})
            signs = "".join("#" if right.has(number) else "." for number in range(-40, 41))
            self.assertEqual(picture(claim, "x", {"n": 4}, -40, 40), signs)

    def test_a_great_period(self):
        claim = ("or", rests(10 ** 30, 0, x=1), zero(-5, x=1))
        self.assertEqual(picture(claim, "x", {}, -1, 6), ".#....#.")
        self.assertEqual(picture(claim, "x", {}, 10 ** 30 - 1, 10 ** 30 + 1), ".#.")

    def test_wrong(self):
        open_claim = below(0, a=1, x=1)
        for value in BAD_CLAIMS:
            self.assertEqual(told(picture, value, None, None, None, None), ("BadClaim", "claim"))
        for value in BAD_NAMES:
            self.assertEqual(told(picture, open_claim, value, None, None, None), ("BadName", "name"))
        for value in BAD_SETTINGS:
            self.assertEqual(told(picture, open_claim, "x", value, None, None), ("BadSetting", "setting"))
        for value in BAD_NUMBERS:
            self.assertEqual(told(picture, open_claim, "x", {}, value, None), ("BadNumber", "first"))
            self.assertEqual(told(picture, open_claim, "x", {}, 0, value), ("BadNumber", "last"))
        for first, last in ((5, 4), (5, 205), (0, 200), (-10 ** 40, 10 ** 40), (0, -1)):
            self.assertEqual(told(picture, open_claim, "x", {}, first, last), ("BadNumber", "last"))
        self.assertEqual(told(picture, open_claim, "x", {"x": 1}, 5, 204), ("NoName", "a"))
        self.assertEqual(len(picture(open_claim, "x", {"a": 1}, 5, 204)), 200)


class TextsTest(unittest.TestCase):
    def test_layouts(self):
        for rows, text in (([], "-"), ([(3, 3, 1)], "3 3 1"),
                           ([(12, 12, 1), (0, 10, 5), (None, -3, 2)], ". -3 2 , 0 10 5 , 12 12 1"),
                           ([(0, None, 1)], "0 . 1"), ([(None, -10 ** 40, 7)], f". -{10 ** 40} 7"),
                           ([(2, None, 2), (1, None, 2)], "1 . 2 , 2 . 2")):
            self.assertEqual(layout_text(Layout(rows)), text)
        for value in [*ODD_VALUES, Odd(), Layout]:
            self.assertEqual(told(layout_text, layout=value), ("BadLayout", "layout"))

    def test_settings(self):
        for value, text in (({}, "-"), ((), "-"), ({"y": 4, "x": -1}, "x -1 y 4"), ([["b1", 0]], "b1 0"),
                            ([("z", 10 ** 40), ("a", 1)], f"a 1 z {10 ** 40}")):
            self.assertEqual(setting_text(value), text)
        for value in BAD_SETTINGS:
            self.assertEqual(told(setting_text, setting=value), ("BadSetting", "setting"))


if __name__ == "__main__":
    unittest.main()
