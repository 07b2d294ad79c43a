"""Rows [7]: what they are, which number they tell, and rows that are enough."""

import unittest

from claimduel.claim_texts import claim_text
from claimduel.claims import free_in
from claimduel.plain import holds
from claimduel.rows import is_row, number_by, rows_for
from support import ODD_VALUES, Odd, chance, lists, odd_but, random_form, random_plain, told

X = (0, (("x", 1),))
ROWS = [
    ("at", 1, X), ("at", 10 ** 59, (0, ())), ("left", 0, 1, ()), ("right", 4, 5, ((1, X),)),
    ("left", 10 ** 58, 10 ** 59, ((3, X), (1, (0, ())), (3, X))),
]
NO_ROWS = [
    ("at", 0, X), ("at", -1, X), ("at", True, X), ("at", 1), ("at", 1, X, X), ("at", X, 1), ("at", 1, (0,)), ("at",),
    ("at", 1.0, X), ("At", 1, X), ("left", 1, 1, ()), ("left", -1, 2, ()), ("left", 0, 0, ()), ("left", 0, True, ()),
    ("left", False, 2, ()), ("left", 0, 1), ("left", 0, 1, (), ()), ("right", 2, 2, ()), ("right", 0, 1, None),
    ("right", 0, 1, (1, X)), ("right", 0, 1, ((0, X),)), ("right", 0, 1, ((1, X, X),)), ("right", 0, 1, ((1,),)),
    ("right", 0, 1, ((1, (0, (("x", 0),))),)), ("right", 0, 1, {}), ("right", 0, 1, "x"), ("up", 0, 1, ()), "at", (),
    ("right", 0, 1, (None,)), ("right", "0", 1, ()), ("left", 0, None, ()), (None, 0, 1, ()), (Odd(), 1, X),
    ("at", Odd(), X), ("at", 1, Odd()), ("left", Odd(), Odd(), ()), ("left", 0, 1, Odd()), ("left", 0, 1, [Odd()]),
    {"at": 1}, (("at", 1, X),), (b"at", 1, X), ("left", 0, 1, ((True, X),)),
]


def marks_at(row, setting):
    return [(d, form[0] + sum(factor * setting[name] for name, factor in form[1])) for d, form in row[3]]


class IsRowTest(unittest.TestCase):
    def test_rows(self):
        for value in ROWS:
            self.assertIs(is_row(value), True)
            self.assertIs(is_row(lists(value)), True)

    def test_no_rows(self):
        for value in NO_ROWS + ODD_VALUES:
            self.assertIs(is_row(value), False)


class NumberByTest(unittest.TestCase):
    def test_at(self):
        luck = chance(16)
        for _ in range(300):
            d, form = luck.randint(1, 6), random_form(luck, ("a", "b"))
            setting = {"a": luck.randint(-9, 9), "b": luck.randint(-9, 9)}
            number = number_by(("at", d, form), setting)
            worth = form[0] + sum(factor * setting[name] for name, factor in form[1])
            if worth % d == 0:
                self.assertEqual(number * d, worth)
            else:
                self.assertIsNone(number)

    def test_left_and_right(self):
        luck = chance(17)
        for _ in range(300):
            m = luck.randint(1, 6)
            marks = tuple((luck.randint(1, 5), random_form(luck, ("a", "b"))) for _ in range(luck.randint(1, 3)))
            setting = {"a": luck.randint(-9, 9), "b": luck.randint(-9, 9)}
            for label, sign in (("left", 1), ("right", -1)):
                row = (label, luck.randrange(m), m, marks)
                number = number_by(row, setting)
                self.assertEqual(number % m, row[1])
                self.assertEqual(number_by(lists(row), list(setting.items())), number)

                def is_beyond(x):
                    return all(sign * x * d < sign * mark for d, mark in marks_at(row, setting))

                self.assertTrue(is_beyond(number))
                self.assertFalse(is_beyond(number + sign * m))

    def test_edges(self):
        self.assertEqual([number_by((side, 3, 5, ()), {}) for side in ("left", "right")], [3, 3])
        at_mark = ((2, (8, ())),)
        self.assertEqual([number_by((side, 0, 1, at_mark), {}) for side in ("left", "right")], [3, 5])
        between = ((2, (9, ())),)
        self.assertEqual([number_by((side, 0, 1, between), {}) for side in ("left", "right")], [4, 5])
        self.assertEqual([number_by((side, 0, 4, at_mark), {}) for side in ("left", "right")], [0, 8])
        below = ((2, (-9, ())),)
        self.assertEqual([number_by((side, 0, 1, below), {}) for side in ("left", "right")], [-5, -4])
        self.assertEqual([number_by(("at", 3, (n, ())), {}) for n in (-6, -5, 0, 7)], [-2, None, 0, None])
        big = 10 ** 59
        self.assertEqual(number_by(("left", 7, big, ((3, (0, (("n", big),))),)), {"n": big}), (big // 3) // 1 * big + 7)

    def test_names_that_lack(self):
        row = ("left", 0, 1, ((1, (0, (("y", 1),))), (2, (0, (("b", 1), ("z", 1))))))
        self.assertEqual(told(number_by, row, {}), ("NoName", "b"))
        self.assertEqual(told(number_by, row, {"b": 1, "z": 1}), ("NoName", "y"))
        self.assertEqual(told(number_by, row, [("b", 1), ("y", 1)]), ("NoName", "z"))
        self.assertEqual(told(number_by, ("at", 1, X), {"y": 1}), ("NoName", "x"))
        self.assertEqual(number_by(row, {"z": 0, "y": 1, "b": 0, "q": 5}), -1)

    def test_wrong_ones(self):
        for value in NO_ROWS + ODD_VALUES:
            self.assertEqual(told(number_by, value, None), ("BadRow", "row"))
            self.assertEqual(told(number_by, setting={}, row=value), ("BadRow", "row"))
        for value in (None, 5, "x", [("x", True)], {"X": 1}, [Odd()], ("x", 1)):
            self.assertEqual(told(number_by, ("at", 1, X), value), ("BadSetting", "setting"))


class RowsForTest(unittest.TestCase):
    def check(self, claim, name, settings, stretch):
        rows = rows_for(claim, name)
        self.assertIsInstance(rows, tuple)
        self.assertEqual(rows_for(lists(claim), name), rows)
        others = set(free_in(claim)) - {name}
        for row in rows:
            self.assertTrue(is_row(row))
            for _, form in ([row[1:]] if row[0] == "at" else row[3]):
                self.assertLessEqual({other for other, _ in form[1]}, others)
        for setting in settings:
            numbers = [number_by(row, setting) for row in rows]
            met = any(number is not None and holds(claim, {**setting, name: number}) for number in numbers)
            right = any(holds(claim, {**setting, name: number}) for number in stretch)
            self.assertEqual(met, right, (claim_text(claim), rows, setting))

    def test_against_trial(self):
        luck = chance(18)
        for k in range(250):
            claim = random_plain(luck, ("n", "x", "y"), k % 4)
            settings = [{"n": luck.randint(-8, 8), "y": luck.randint(-8, 8)} for _ in range(8)]
            self.check(claim, "x", settings, range(-70, 71))

    def test_of_one_name(self):
        luck = chance(19)
        for k in range(250):
            claim = random_plain(luck, ("x",), 1 + k % 4, ms=(2, 3, 4, 6), span=9)
            self.check(claim, "x", [{}], range(-40, 41))
            self.check(claim, "z", [{"x": x} for x in range(-9, 10)], range(3))

    def test_divisions_alone(self):
        luck = chance(20)
        for k in range(20):
            claim = random_plain(luck, ("x",), 3, ms=(2, 3, 4, 5, 7), factors=(1, 2, 3), span=20)
            self.check(claim, "x", [{}], range(-210, 211))
        claim = ("and", *(("not", ("rests", m, (k, (("x", 1),)))) for m, k in ((4, 0), (3, 1), (5, 2), (7, 3))))
        self.check(claim, "x", [{}], range(420))

    def test_edges(self):
        self.assertEqual(rows_for(("no",), "x"), ())
        self.check(("yes",), "x", [{}], range(1))
        self.check(("zero", (1, (("n", -1), ("x", 3)))), "x", [{"n": n} for n in range(-9, 9)], range(-9, 9))
        self.check(("below", X), "x", [{}], range(-3, 3))
        big = 10 ** 59
        claim = ("and", ("below", (big - 7, (("n", big - 1), ("x", -big)))), ("below", (-big * 3, (("n", 1 - big), ("x", big)))),
                 ("not", ("rests", 6, (big, (("n", big + 1), ("x", big - 1))))))
        self.check(claim, "x", [{"n": n} for n in range(-5, 6)], range(-30, 31))
        self.check(("rests", big, (5, (("x", 1),))), "x", [{}], [big - 5])

    def test_wide_and_deep_ones(self):
        claim = ("or", *(("and", ("zero", (k * k, (("x", 1),))), ("rests", 3, (k, (("x", 1),)))) for k in range(1, 500)))
        self.check(claim, "x", [{}], range(-250, 5))
        deep = ("below", X)
        for k in range(30):
            deep = ("and", ("not", ("zero", (k, (("n", 1), ("x", k % 3 + 1))))), ("or", deep, ("zero", (k, (("x", 1),)))))
        self.check(deep, "x", [{"n": n} for n in range(-3, 4)], range(-60, 60))

    def test_wrong_ones(self):
        for value in ODD_VALUES + [("all", "x", ("yes",)), ("and", ("yes",))]:
            self.assertEqual(told(rows_for, value, None), ("BadClaim", "plain"))
        for value in odd_but(str) + ["some", "", "1x"]:
            self.assertEqual(told(rows_for, ("yes",), value), ("BadName", "name"))
            self.assertEqual(told(rows_for, name=value, plain=("yes",)), ("BadName", "name"))

    def test_what_is_passed_stays(self):
        claim, row = ["and", ["below", [1, [["x", 2]]]], ["rests", 2, [0, [["x", 1]]]]], ["at", 2, [0, [["x", 1]]]]
        rows_for(claim, "x")
        number_by(row, {"x": 2})
        self.assertEqual(claim, ["and", ["below", [1, [["x", 2]]]], ["rests", 2, [0, [["x", 1]]]]])
        self.assertEqual(row, ["at", 2, [0, [["x", 1]]]])


if __name__ == "__main__":
    unittest.main()
