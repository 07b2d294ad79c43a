"""Claims [5]: which values are claims, what is free in them, and claims made of others."""

import unittest

from claimduel.claims import both, contrary, either, free_in, is_claim, is_plain
from claimduel.claims import levels_of, put_in, size_of
from claimduel.forms import factor_of, put, worth
from claimduel.papers import fixed
from claimduel.plain import holds
from support import ODD_VALUES, Odd, chance, lists, nested, odd_but, random_claim, random_form, random_plain, told

NAMES = ("x", "y", "z")
X = (0, (("x", 1),))
LOW = ("below", X)
PLAIN = [
    ("yes",), ("no",), LOW, ("zero", (3, ())), ("rests", 2, X), ("rests", 10 ** 60, X), ("not", LOW),
    ("not", ("not", ("yes",))), ("and", LOW, LOW), ("or", LOW, ("yes",), ("no",), ("and", LOW, LOW)),
]
OTHERS = [
    ("all", "x", LOW), ("some", "y", LOW), ("endless", "x", ("some", "y", LOW)), ("count", "zero", X, ((1, "x", LOW),)),
    ("count", "below", (0, ()), ((1, "x", LOW), (-2, "x", LOW), (3, "y", ("yes",)), (10 ** 50, "z", ("no",)))),
    ("and", ("all", "x", LOW), ("some", "x", LOW)), ("or", LOW, ("all", "x", LOW)),
    ("count", "zero", X, ((1, "x", ("count", "zero", X, ((1, "y", ("all", "z", LOW)),))),)),
    ("all", "x", ("count", "zero", X, ((1, "y", LOW), (1, "y", LOW)))), ("not", ("endless", "x", LOW)),
]
NO_CLAIMS = [
    (), ("yes", 1), ("no", ("no",)), ("Yes",), ("", LOW), ("yes ",), "yes", ["yes", []], (("yes",),), ("claim", LOW),
    ("below",), LOW + (1,), ("below", X, X), ("below", (0,)), ("below", 0), ("below", None), ("zero", (0, (("x", 0),))),
    ("below", (0, (("y", 1), ("x", 1)))), ("below", LOW), ("rests", X), ("rests", 1, X), ("rests", 0, X),
    ("rests", -2, X), ("rests", True, X), ("rests", "2", X), ("rests", 2, 0), ("rests", 2, X, X), ("rests", X, 2),
    ("rests", 2.0, X), ("not",), ("not", LOW, LOW), ("not", "yes"), ("not", None), ("and",), ("and", LOW), ("or", LOW),
    ("or",), ("and", LOW, None), ("and", [LOW, LOW]), ("or", LOW, LOW, "no"), ("and", LOW, ("or", LOW)),
    ("all", "x"), ("all", LOW), ("all", LOW, "x"), ("all", "some", LOW), ("all", "1x", LOW), ("some", 1, LOW),
    ("tally", "zero", X, ((1, "x", LOW),)), ("some", "x", LOW, LOW), ("endless", "x", None), ("all", "x", ("all", "x", LOW)), ("all", ["x"], LOW),
    ("some", "x", ("and", LOW, ("not", ("endless", "x", LOW)))), ("many", "x", LOW),
    ("all", "x", ("count", "zero", X, ((1, "y", LOW), (1, "x", LOW)))),
    ("count", "zero", X, ((1, "x", ("some", "x", LOW)),)), ("count", "zero", X, ()), ("count", "zero", X),
    ("count", "zero", X, ((1, "x", LOW),) * 5), ("count", "zero", X, ((0, "x", LOW),)), ("count", "zero", X, None),
    ("count", "zero", X, ((True, "x", LOW),)), ("count", "zero", X, ((1, "not", LOW),)),
    ("count", "zero", X, ((1, "x"),)), ("count", "zero", X, ((1, "x", LOW, LOW),)), ("count", "zero", X, (1, "x", LOW)),
    ("count", "zero", X, ((1, "x", "yes"),)), ("count", "zero", X, ((1, "x", LOW), None)),
    ("count", "rests", X, ((1, "x", LOW),)), ("count", None, X, ((1, "x", LOW),)), ("count", ["zero"], X, ((1, "x", LOW),)),
    ("count", "zero", 0, ((1, "x", LOW),)), ("count", X, "zero", ((1, "x", LOW),)), ("count", "zero", X, {1: 2}),
    ("count", "zero", X, ((1, "x", LOW),), 1), ("count", "zero", X, ((1, Odd(), LOW),)), (Odd(),), ("not", Odd()),
    (Odd(), LOW), ("below", Odd()), ("rests", Odd(), X), ("all", Odd(), LOW), ("count", Odd(), X, ((1, "x", LOW),)),
    {"yes": 1}, {"yes"}, iter(("yes",)), (b"yes",), nested(59, LOW),
]


class IsClaimTest(unittest.TestCase):
    def test_claims(self):
        for value in PLAIN + OTHERS:
            self.assertIs(is_claim(value), True, value)
            self.assertIs(is_claim(lists(value)), True, value)
            self.assertIs(is_plain(value), value in PLAIN, value)
            self.assertIs(is_plain(lists(value)), value in PLAIN, value)

    def test_no_claims(self):
        for value in NO_CLAIMS + ODD_VALUES:
            self.assertIs(is_claim(value), False)
            self.assertIs(is_plain(value), False)
            self.assertIs(is_claim(("or", LOW, value)), False)
            self.assertIs(is_claim(["not", value]), False)
            self.assertIs(is_claim(["some", "k", value]), False)
            self.assertIs(is_claim(("count", "zero", X, ((1, "k", value),))), False)

    def test_deep_and_wide_ones(self):
        deep = LOW
        for _ in range(300):
            deep = ("not", deep)
        self.assertIs(is_plain(deep), True)
        self.assertEqual(size_of(deep), 302)
        wide = ["and"] + [LOW] * 5000
        self.assertIs(is_claim(wide), True)
        self.assertEqual(size_of(wide), 10001)
        self.assertIs(is_claim(wide + [("yes", 1)]), False)

    def test_a_claim_bent_at_a_place(self):
        luck = chance(3)
        for _ in range(200):
            claim = random_claim(luck, NAMES, 3)
            self.assertIs(is_claim(claim), True, claim)
            for bent in (claim[:-1], claim + ("x",), claim[:-1] + ("x",), claim[1:], (claim,)):
                if not (claim[0] in ("and", "or") and bent == claim[:-1] and len(claim) > 3):
                    self.assertIs(is_claim(bent), False, bent)


class NamesLevelsSizeTest(unittest.TestCase):
    def test_free_names(self):
        for claim, free in (
                (("yes",), ()), (LOW, ("x",)), (("all", "x", LOW), ()), (("all", "y", LOW), ("x",)),
                (("and", LOW, ("all", "x", LOW)), ("x",)), (("or", ("some", "x", LOW), ("zero", (0, (("b", 1),)))), ("b",)),
                (("count", "zero", X, ((1, "x", LOW),)), ("x",)), (("count", "zero", (0, ()), ((1, "x", LOW),)), ()),
                (("count", "zero", (0, ()), ((1, "y", LOW), (1, "x", LOW))), ("x",)),
                (("some", "x", ("count", "zero", X, ((1, "y", ("rests", 2, (0, (("x", 1), ("y", 1), ("z", 1))))),))), ("z",)),
                (("and", ("zero", (0, (("z", 1),))), ("below", (0, (("a", 1), ("m", 2))))), ("a", "m", "z"))):
            self.assertEqual(free_in(claim), free)
            self.assertEqual(free_in(lists(claim)), free)

    def test_levels(self):
        for claim, levels in (
                (LOW, 0), (("not", LOW), 0), (("all", "x", LOW), 1), (("and", ("all", "x", LOW), ("some", "x", LOW)), 1),
                (("endless", "x", ("some", "y", LOW)), 2), (("count", "zero", X, ((1, "x", LOW),)), 1),
                (("count", "zero", X, ((1, "x", LOW), (1, "y", ("not", ("all", "z", LOW))))), 2),
                (("all", "x", ("or", LOW, ("count", "zero", X, ((1, "y", ("some", "z", LOW)),)))), 3)):
            self.assertEqual(levels_of(claim), levels)
            self.assertEqual(levels_of(lists(claim)), levels)

    def test_size(self):
        for claim, size in (
                (("yes",), 1), (LOW, 2), (("rests", 3, X), 2), (("not", LOW), 3), (("and", LOW, LOW, ("no",)), 6),
                (("all", "x", LOW), 3), (("count", "zero", X, ((1, "x", LOW),)), 4),
                (("count", "below", X, ((1, "x", LOW), (2, "y", ("not", ("yes",))))), 6)):
            self.assertEqual(size_of(claim), size)
            self.assertEqual(size_of(lists(claim)), size)


class PutInTest(unittest.TestCase):
    def test_as_the_first_fact_tells(self):
        luck = chance(4)
        for _ in range(400):
            claim = random_plain(luck, NAMES, 3)
            name, form = luck.choice(NAMES), random_form(luck, NAMES)
            setting = {name: luck.randint(-9, 9) for name in NAMES}
            made = put_in(claim, name, form)
            self.assertTrue(is_plain(made))
            self.assertEqual(holds(made, setting), holds(claim, {**setting, name: worth(form, setting)}))

    def test_free_places_alone(self):
        claim = ("and", LOW, ("all", "x", LOW), ("count", "zero", X, ((1, "x", LOW), (1, "y", LOW))), ("rests", 2, X))
        low = ("below", (1, (("z", 2),)))
        form = (1, (("z", 2),))
        self.assertEqual(put_in(claim, "x", form), (
            "and", low, ("all", "x", LOW), ("count", "zero", form, ((1, "x", LOW), (1, "y", low))), ("rests", 2, form)))
        self.assertEqual(put_in(lists(claim), "x", lists(form)), put_in(claim, "x", form))
        self.assertEqual(put_in(claim, "q", (0, (("x", 1),))), claim)

    def test_names_bound_around(self):
        claim = ("and", LOW, ("all", "y", ("zero", (0, (("x", 1), ("y", 1))))))
        self.assertEqual(told(put_in, claim, "x", (0, (("y", 1),))), ("Misfit", "form"))
        self.assertEqual(told(put_in, claim, "x", (0, (("x", 1), ("y", 1)))), ("Misfit", "form"))
        self.assertIsNone(told(put_in, claim, "x", (0, (("x", 1), ("z", 1)))))
        self.assertIsNone(told(put_in, claim, "z", (0, (("y", 1),))))
        self.assertIsNone(told(put_in, claim, "y", (0, (("y", 1),))))
        self.assertIsNone(told(put_in, ("and", LOW, ("all", "y", ("yes",))), "x", (0, (("y", 1),))))
        count = ("count", "zero", X, ((1, "y", ("yes",)), (1, "z", LOW)))
        self.assertIsNone(told(put_in, count, "x", (0, (("y", 1),))))
        self.assertEqual(told(put_in, count, "x", (0, (("z", 1),))), ("Misfit", "form"))
        inner = ("some", "z", ("all", "y", LOW))
        for name in ("y", "z"):
            self.assertEqual(told(put_in, inner, "x", (0, ((name, 1),))), ("Misfit", "form"))
        self.assertIsNone(told(put_in, ("all", "x", ("some", "y", LOW)), "x", (0, (("y", 1),))))

    def test_any_claims(self):
        luck = chance(5)
        for _ in range(300):
            claim = random_claim(luck, NAMES, 3)
            name, form = luck.choice(NAMES), (luck.randint(-3, 3), (("new", 2),))
            made = put_in(claim, name, form)
            self.assertTrue(is_claim(made))
            free = free_in(claim)
            if name in free:
                self.assertEqual(free_in(made), tuple(sorted({*free, "new"} - {name})))
                self.assertEqual(put_in(made, "new", (0, ())), put_in(claim, name, (form[0], ())))
            else:
                self.assertEqual(made, claim)
            self.assertEqual((levels_of(made), size_of(made)), (levels_of(claim), size_of(claim)))
            self.assertEqual(factor_of(put((0, ((name, 3),)), name, form), "new"), 6)


class JoinedTest(unittest.TestCase):
    def test_both_and_either(self):
        other = ("zero", X)
        self.assertEqual([both([]), either(())], [("yes",), ("no",)])
        self.assertEqual([both([lists(LOW)]), either((LOW,))], [LOW, LOW])
        self.assertEqual(both([LOW, lists(other), LOW]), ("and", LOW, other, LOW))
        self.assertEqual(either((other, ["or", LOW, other])), ("or", other, ("or", LOW, other)))
        self.assertEqual(len(both(OTHERS * 500)), 1 + 500 * len(OTHERS))

    def test_contrary(self):
        self.assertEqual(contrary(lists(LOW)), ("not", LOW))
        self.assertEqual(contrary(["not", lists(LOW)]), LOW)
        self.assertEqual(contrary(("not", ("not", LOW))), ("not", LOW))
        self.assertEqual(contrary(("yes",)), ("not", ("yes",)))


class ErrorsTest(unittest.TestCase):
    def test_no_claims(self):
        for value in NO_CLAIMS + ODD_VALUES:
            for function in (free_in, levels_of, size_of, contrary):
                self.assertEqual(told(function, value), ("BadClaim", "claim"))
                self.assertEqual(told(function, claim=value), ("BadClaim", "claim"))
            self.assertEqual(told(put_in, value, None, None), ("BadClaim", "claim"))
            for function in (both, either):
                self.assertEqual(told(function, [LOW, value]), ("BadClaim", "claims"))
        for value in odd_but(list, tuple) + [LOW, ("yes",), [[]], {LOW: 1}, iter([LOW])]:
            for function in (both, either):
                self.assertEqual(told(function, value), ("BadClaim", "claims"))

    def test_names_and_forms(self):
        for value in odd_but(str) + ["1x", "or", "", "y" * 9]:
            self.assertEqual(told(put_in, LOW, value, None), ("BadName", "name"))
        for value in ODD_VALUES + [(1,), LOW]:
            self.assertEqual(told(put_in, ("all", "y", LOW), "x", value), ("BadForm", "form"))
        self.assertEqual(told(put_in, form=(0, (("y", 1),)), name="x", claim=("all", "y", LOW)), ("Misfit", "form"))

    def test_what_is_passed_stays(self):
        for claim in PLAIN + OTHERS:
            value = lists(claim)
            for function in (free_in, levels_of, size_of, contrary, is_claim, is_plain):
                function(value)
            both([value, value])
            put_in(value, "x", [1, [["new", 1]]])
            self.assertEqual(value, lists(claim))
            self.assertEqual(fixed(value), claim)


if __name__ == "__main__":
    unittest.main()
