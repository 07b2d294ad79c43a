"""Forms [4]."""

import unittest

from claimduel.forms import factor_of, form_of, is_form, names_in, plus, put, times, worth
from support import ODD_VALUES, Odd, chance, lists, odd_but, random_form, told

NAMES = ("a", "b", "x", "y")
NO_FORMS = [
    (True, ()), (1.0, ()), ("1", ()), (None, ()), (0,), (0, (), ()), (0, None), (0, "x"), (0, {"x": 1}), (0, {}),
    (0, 5), (0, [("x",)]), (0, [("x", 1, 1)]), (0, [("x", 0)]), (0, [("x", True)]), (0, [("x", 1.0)]),
    (0, [("X", 1)]), (0, [("some", 1)]), (0, [(1, "x")]), (0, [("", 1)]), (0, ["x1"]), (0, [{"x": 1}]),
    (0, [("y", 1), ("x", 1)]), (0, [("x", 1), ("x", 1)]), (0, [("x", 1), ("x", 2)]), (0, [("x1", 1), ("x", 1)]),
    (0, (("x", 1), None)), ((0, ()), ()), {0: ()}, (0, [("x", Odd())]), (0, [(Odd(), 1)]), (Odd(), ()), (0, Odd()),
]


def worth_by_hand(form, setting):
    return form[0] + sum(factor * setting[name] for name, factor in form[1])


class IsFormTest(unittest.TestCase):
    def test_forms(self):
        for value in ((0, ()), [0, []], (-10 ** 60, [["x", 10 ** 60]]), (1, [("x", 1), ["x1", -1], ("y", 3)])):
            self.assertIs(is_form(value), True)

    def test_no_forms(self):
        for value in NO_FORMS + ODD_VALUES:
            self.assertIs(is_form(value), False)


class FormOfTest(unittest.TestCase):
    def test_factors_are_added(self):
        self.assertEqual(form_of(5, [("y", -1), ("x", 3), ["x", -1]]), (5, (("x", 2), ("y", -1))))
        self.assertEqual(form_of(0, (("x", 0), ("y", 2), ("y", -2))), (0, ()))
        self.assertEqual(form_of(pairs=[], constant=-7), (-7, ()))
        self.assertEqual(form_of(1, [("z", 10 ** 59), ("z", 1)]), (1, (("z", 10 ** 59 + 1),)))

    def test_wrong_ones(self):
        for value in odd_but(int):
            self.assertEqual(told(form_of, value, value), ("BadNumber", "constant"))
        for value in ([("x", True)], [("x",)], [("x", 1), ("X", 1)], {"x": 1}, "x", None, 5, [("x", 1), None],
                      [["x", 1, 2]], {("x", 1)}, [("x", 1.0)], ["x1"], iter([("x", 1)]), [Odd()], Odd()):
            self.assertEqual(told(form_of, 0, value), ("BadForm", "pairs"))
        self.assertEqual(told(form_of, True, None), ("BadNumber", "constant"))


class ReckoningTest(unittest.TestCase):
    def test_names_and_factors(self):
        form = (5, [["a", 2], ("y", -1)])
        self.assertEqual((names_in(form), names_in((0, ()))), (("a", "y"), ()))
        self.assertEqual([factor_of(form, name) for name in ("a", "y", "x", "aa")], [2, -1, 0, 0])

    def test_against_trial(self):
        luck = chance(2)
        for _ in range(500):
            one, other = random_form(luck, NAMES), random_form(luck, NAMES)
            number, name = luck.randint(-4, 4), luck.choice(NAMES)
            setting = {name: luck.randint(-9, 9) for name in NAMES}
            a, b = worth_by_hand(one, setting), worth_by_hand(other, setting)
            for made, expected in (
                    (plus(one, other), a + b), (times(one, number), a * number),
                    (put(one, name, other), worth_by_hand(one, {**setting, name: b})), (one, a)):
                self.assertTrue(is_form(made))
                self.assertEqual(made, form_of(made[0], made[1]))
                self.assertEqual(worth_by_hand(made, setting), expected)
                self.assertEqual(worth(made, setting), expected)

    def test_edges(self):
        self.assertEqual(plus((1, [("x", 1)]), (2, [("x", -1)])), (3, ()))
        self.assertEqual(times((3, [("x", 1)]), 0), (0, ()))
        self.assertEqual(put((1, [("x", 2)]), "x", (1, [("x", 3)])), (3, (("x", 6),)))
        self.assertEqual(put((1, [("x", 2), ("y", -2)]), "x", (0, [("y", 1)])), (1, ()))
        self.assertEqual(put((1, [("x", 2)]), "y", (5, [("y", 1)])), (1, (("x", 2),)))
        big = 10 ** 59
        self.assertEqual(put((big, [("x", big)]), "x", (big, [("y", 1)])), (big + big * big, (("y", big),)))

    def test_worth_asks_for_its_names(self):
        form = (1, [("b", 2), ("x", 3), ("y", 4)])
        self.assertEqual(worth(form, {"b": 1, "x": 1, "y": 1, "z": 9}), 10)
        self.assertEqual(worth(form, [["y", 0], ("x", 0), ("b", 0)]), 1)
        self.assertEqual(told(worth, form, {"x": 1}), ("NoName", "b"))
        self.assertEqual(told(worth, form, [("b", 1)]), ("NoName", "x"))
        self.assertEqual(worth((7, ()), {}), 7)

    def test_tuples_are_returned(self):
        form = [5, [["a", 2], ["y", -1]]]
        fixed_form = (5, (("a", 2), ("y", -1)))
        self.assertEqual(put(form, "x", (0, ())), fixed_form)
        self.assertEqual(times(form, 1), fixed_form)
        self.assertEqual(plus(form, [0, []]), fixed_form)
        self.assertEqual(form, lists(fixed_form))


class ErrorsTest(unittest.TestCase):
    def test_no_forms(self):
        line = (0, [("x", 1)])
        for value in NO_FORMS + ODD_VALUES:
            for call, part in (
                    ((names_in, value), "form"), ((factor_of, value, "some"), "form"), ((plus, value, value), "one"),
                    ((plus, line, value), "other"), ((times, value, None), "form"), ((put, value, 1, 1), "form"),
                    ((put, line, "x", value), "other"), ((worth, value, None), "form")):
                self.assertEqual(told(*call), ("BadForm", part))

    def test_names_numbers_settings(self):
        line = (0, [("x", 1)])
        for value in odd_but(str) + ["", "1x", "yes", "y" * 9]:
            self.assertEqual(told(factor_of, line, value), ("BadName", "name"))
            self.assertEqual(told(put, line, value, None), ("BadName", "name"))
        for value in odd_but(int):
            self.assertEqual(told(times, line, value), ("BadNumber", "number"))
        for value in (None, 5, "x", [("x", True)], [("x", 1), ("x", 1)], {"X": 1}, [Odd()]):
            self.assertEqual(told(worth, line, value), ("BadSetting", "setting"))

    def test_by_name(self):
        line = (0, (("x", 1),))
        self.assertEqual(put(other=(1, ()), name="x", form=line), (1, ()))
        self.assertEqual(worth(setting={"x": 3}, form=line), 3)
        self.assertEqual(plus(other=line, one=line), times(number=2, form=line))


if __name__ == "__main__":
    unittest.main()
