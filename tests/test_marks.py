"""Marks and periods [6]."""

import unittest
from math import gcd

from claimduel.marks import marks_of, period_of
from claimduel.plain import holds
from support import ODD_VALUES, chance, lists, odd_but, random_plain, told

NAMES = ("x", "y")
X = (0, (("x", 1),))


class MarksTest(unittest.TestCase):
    def test_marks(self):
        for claim, marks in (
                (("yes",), ()), (("rests", 2, X), ()), (("below", (3, ())), ()), (("below", (3, (("y", 1),))), ()),
                (("below", (3, (("x", 2),))), ((2, (-3, ())),)), (("zero", (3, (("x", -2),))), ((2, (3, ())),)),
                (("not", ("zero", (1, (("a", 4), ("x", 3), ("y", -1))))), ((3, (-1, (("a", -4), ("y", 1)))),)),
                (("and", ("below", X), ("zero", X), ("below", (-4, (("x", 2),))), ("below", (0, (("x", -1),)))),
                 ((1, (0, ())), (2, (4, ())))),
                (("or", ("below", (-9, (("x", 1),))), ("below", (5, (("x", 1),))), ("below", (0, (("x", 1), ("y", 1))))),
                 ((1, (-5, ())), (1, (0, (("y", -1),))), (1, (9, ()))))):
            self.assertEqual((marks_of(claim, "x"), marks_of(lists(claim), "x")), (marks, marks))

    def test_periods(self):
        def rests(m, factor):
            return ("rests", m, (1, (("x", factor),)))

        for claim, period in (
                (("yes",), 1), (("below", X), 1), (rests(6, 1), 6), (rests(6, 4), 3), (rests(6, -6), 1),
                (("and", rests(4, 1), rests(6, 1)), 12), (("not", ("or", rests(4, 2), rests(9, 3))), 6),
                (("rests", 5, (0, (("y", 1),))), 1), (("rests", 10 ** 59, X), 10 ** 59),
                (("and", rests(10 ** 59, 2), rests(10 ** 58, 5)), 5 * 10 ** 58)):
            self.assertEqual((period_of(claim, "x"), period_of(lists(claim), "x")), (period, period))

    def test_between_marks_the_rest_tells(self):
        luck = chance(15)
        for _ in range(100):
            claim = random_plain(luck, NAMES, 2)
            y = luck.randint(-5, 5)
            marks = [(d, form[0] + sum(factor * y for _, factor in form[1])) for d, form in marks_of(claim, "x")]
            period = period_of(claim, "x")
            for x in range(-20, 20):
                other = x + period
                if not any(x * d <= told_mark <= other * d for d, told_mark in marks):
                    self.assertEqual(holds(claim, {"x": x, "y": y}), holds(claim, {"x": other, "y": y}))
            for d, form in marks_of(claim, "x"):
                self.assertGreater(d, 0)
                self.assertNotIn("x", dict(form[1]))
        self.assertEqual(period_of(("rests", 12, (0, (("x", 8),))), "x"), 12 // gcd(12, 8))

    def test_wrong_ones(self):
        for function in (marks_of, period_of):
            for value in ODD_VALUES + [("all", "x", ("yes",))]:
                self.assertEqual(told(function, value, None), ("BadClaim", "plain"))
            for value in odd_but(str) + ["some", "", "1x"]:
                self.assertEqual(told(function, ("yes",), value), ("BadName", "name"))
            self.assertEqual(told(function, name="X", plain=("yes",)), ("BadName", "name"))

    def test_what_is_passed_stays(self):
        claim = ["and", ["below", [1, [["x", 2]]]], ["rests", 2, [0, [["x", 1]]]]]
        marks_of(claim, "x")
        period_of(claim, "x")
        self.assertEqual(claim, ["and", ["below", [1, [["x", 2]]]], ["rests", 2, [0, [["x", 1]]]]])


if __name__ == "__main__":
    unittest.main()
