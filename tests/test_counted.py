"""Count comparisons over plain claims, made plain [5] [8]."""

import unittest

from claimduel.claim_texts import claim_text
from claimduel.claims import both, free_in, is_plain
from claimduel.counted import counted
from claimduel.plain import holds
from reckoning import many_right, worth_at
from support import BAD_PLAIN, ODD_VALUES, Odd, below, chance, from_to, lists, random_form, random_literal, random_plain
from support import random_setting, random_tree, rests, told, zero

FORM = (0, (("n", 1),))
NO_ROWS = [
    [], (), None, "rows", {}, [(1, "x", ("yes",))] * 5, [(0, "x", ("yes",))], [(True, "x", ("yes",))], [(1.0, "x", ("yes",))],
    [(1, "some", ("yes",))], [(1, None, ("yes",))], [(1, "x")], [(1, "x", ("yes",), 1)], [None], ["row"], [Odd()], Odd(),
    [(1, "x", ("some", "y", ("yes",)))], [(1, "x", None)], [(1, "x", ("and", ("yes",)))], (1, "x", ("yes",)),
    [(1, "x", ("yes",)), (1, "y", ("count", "zero", FORM, ((1, "z", ("no",)),)))], [(Odd(), "x", ("yes",))],
]


def so_by_counting(kind, form, rows, setting):
    total = worth_at(form, setting)
    for factor, name, claim in rows:
        many = many_right(claim, name, setting)
        if many is None:
            return False
        total += factor * many
    return total < 0 if kind == "below" else total == 0


class CountedTest(unittest.TestCase):
    def check(self, kind, form, rows, settings):
        plain = counted(kind, form, rows)
        self.assertTrue(is_plain(plain))
        free = {*dict(form[1])}.union(*({*free_in(claim)} - {name} for _, name, claim in rows))
        self.assertLessEqual(set(free_in(plain)), free)
        self.assertEqual(counted(kind, lists(form), lists(tuple(rows))), plain)
        for setting in settings:
            expected = so_by_counting(kind, form, rows, setting)
            self.assertIs(holds(plain, setting), expected, (kind, form, [claim_text(row[2]) for row in rows], setting))
        return plain

    def test_one_row(self):
        luck = chance(130)
        for k in range(250):
            claim = random_plain(luck, ("n", "x", "y"), 1 + k % 2, ms=(2, 3))
            if k % 3:
                claim = both([from_to("x", luck.randint(-9, 0), luck.randint(1, 9)), claim])
            rows = [(luck.choice([-3, -2, -1, 1, 2, 3]), "x", claim)]
            form = random_form(luck, ("n", "x", "y"))
            settings = [random_setting(luck, ("n", "x", "y")) for _ in range(8)]
            self.check(luck.choice(("below", "zero")), form, rows, settings)

    def test_one_row_at_its_bounds(self):
        luck = chance(131)
        for k in range(80):
            literals = [random_literal(luck, "nyx", kinds=("below",), must="x") for _ in range(2)]
            literals.append(random_literal(luck, "nyx", kinds=("rests",), ms=(3, 4), must="x"))
            rows = [(luck.choice([-2, -1, 1, 3]), "x", random_tree(luck, literals))]
            form = random_form(luck, ("n", "y"))
            self.check(luck.choice(("below", "zero")), form, rows, [random_setting(luck, ("n", "y")) for _ in range(8)])

    def test_several_rows(self):
        luck = chance(132)
        for k in range(100):
            rows = []
            for name in luck.choice((("x", "y"), ("x", "x"), ("x", "y", "z"), ("x", "y", "x", "y"))):
                literals = [below(luck.randint(-9, 9), **{name: 1, "n": luck.choice((-1, 1))}),
                            below(luck.randint(-9, 9), **{name: -1, "k": luck.choice((-1, 1))})]
                rows.append((luck.choice([-2, -1, 1, 2]), name, ("and", *literals)))
            form = random_form(luck, ("k", "n"))
            settings = [random_setting(luck, ("k", "n")) for _ in range(8)]
            self.check(luck.choice(("below", "zero")), form, rows, settings)

    def test_names_of_other_rows(self):
        # In the first row y is free, in the second one x is; the form has both.
        rows = [(1, "x", from_and_below("x", "y")), (-2, "y", from_and_below("y", "x"))]
        form = (1, (("x", -1), ("y", 3)))
        settings = [{"x": x, "y": y} for x in range(-3, 5) for y in range(-3, 5)]
        plain = self.check("zero", form, rows, settings)
        self.check("below", form, rows, settings)
        self.assertEqual(free_in(plain), ("x", "y"))

    def test_endless_rows(self):
        for kind in ("below", "zero"):
            for claim in (("yes",), below(0, x=1), below(0, x=-1), rests(7, 3, x=1), ("not", zero(0, x=1))):
                self.assertEqual(counted(kind, (-10 ** 30, ()), [(-1, "x", claim)]), ("no",))
                rows = [(1, "y", ("no",)), (1, "x", claim)]
                self.assertEqual(counted(kind, (0, ()), rows), ("no",))
        sometimes = [(1, "x", ("or", zero(0, x=1), ("and", below(0, n=1), below(0, x=1))))]
        self.check("zero", (-1, ()), sometimes, [{"n": n} for n in range(-3, 4)])
        self.check("below", (-1, ()), sometimes, [{"n": n} for n in range(-3, 4)])
        # Of two how-manys the difference of which is endless less endless, too.
        self.assertEqual(counted("zero", (0, ()), [(1, "x", ("yes",)), (-1, "x", ("yes",))]), ("no",))

    def test_windows(self):
        for m in (2, 3, 7):
            week = both([("not", below(0, x=1, d=-1)), below(-m, x=1, d=-1), rests(m, 0, x=1)])
            self.assertEqual(counted("zero", (-1, ()), [(1, "x", week)]), ("yes",))
            self.assertEqual(counted("below", (-1, ()), [(1, "x", week)]), ("no",))
            less = both([("not", below(0, x=1, d=-1)), below(1 - m, x=1, d=-1), rests(m, 0, x=1)])
            self.check("zero", (-1, ()), [(1, "x", less)], [{"d": d} for d in range(-9, 9)])

    def test_closed_ones(self):
        for constant in range(-7, 3):
            rows = [(1, "x", from_to("x", 0, 5))]
            self.assertEqual(counted("zero", (constant, ()), rows), ("yes",) if constant == -5 else ("no",))
            self.assertEqual(counted("below", (constant, ()), rows), ("yes",) if constant < -5 else ("no",))

    def test_wrong_ones(self):
        rows = [(1, "x", ("no",))]
        for value in ODD_VALUES + ["Below", "rests", ("below",), b"zero"]:
            self.assertEqual(told(counted, value, None, None), ("BadClaim", "kind"))
        for value in (None, (), (0,), (0, [("x", 0)]), "1 x + 0", Odd(), (True, ()), (0, [("y", 1), ("x", 1)])):
            self.assertEqual(told(counted, "below", value, None), ("BadForm", "form"))
        for value in NO_ROWS:
            self.assertEqual(told(counted, "below", FORM, value), ("BadClaim", "rows"))
            self.assertEqual(told(counted, rows=value, form=FORM, kind="zero"), ("BadClaim", "rows"))
        for value in BAD_PLAIN:
            self.assertEqual(told(counted, "zero", FORM, [*rows, (1, "y", value)]), ("BadClaim", "rows"))

    def test_what_is_passed_stays(self):
        form, rows = [3, [["n", 1]]], [[1, "x", lists(from_to("x", 0, 5))]]
        counted("below", form, rows)
        self.assertEqual((form, rows), ([3, [["n", 1]]], [[1, "x", lists(from_to("x", 0, 5))]]))


def from_and_below(name, other):
    """The claim that a name is from 0 on and below another one."""
    return ("and", ("not", below(0, **{name: 1})), below(0, **{name: 1, other: -1}))


if __name__ == "__main__":
    unittest.main()
