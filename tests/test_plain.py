"""Plain claims [6]: reckoned at a setting, and made less."""

import unittest

from claimduel.claim_texts import claim_text, read_claim
from claimduel.claims import free_in, is_plain, size_of
from claimduel.plain import holds, thinned
from support import ODD_VALUES, Odd, chance, lists, nested, random_plain, told

NAMES = ("x", "y", "z")
FEW = ("and", ("not", ("below", (0, (("x", 1),)))), ("below", (-7, (("x", 2),))))
NO_PLAIN = [("all", "x", FEW), ("not", ("some", "x", FEW)), ("count", "zero", (0, ()), ((1, "x", FEW),)),
            ("and", FEW, ("endless", "x", FEW)), ("and", FEW), ("rests", 1, (0, ())), "yes", None, nested(60, FEW)]
NO_SETTINGS = [None, 5, "x", [("x", True)], [("x", 1), ("x", 1)], {"X": 1}, [Odd()], Odd(), ("x", 1), {"x": 1.0}]


def by_hand(claim, setting):
    """Whether a plain claim is so: a second way to tell it."""
    label = claim[0]
    if label in ("yes", "no"):
        return label == "yes"
    if label == "not":
        return not by_hand(claim[1], setting)
    if label in ("and", "or"):
        return (all if label == "and" else any)([by_hand(part, setting) for part in claim[1:]])
    constant, pairs = claim[-1]
    number = constant + sum(factor * setting[name] for name, factor in pairs)
    return {"below": number < 0, "zero": number == 0, "rests": label == "rests" and number % claim[1] == 0}[label]


class HoldsTest(unittest.TestCase):
    def test_against_reckoning_by_hand(self):
        luck = chance(10)
        for _ in range(600):
            claim = random_plain(luck, NAMES, 3)
            setting = {name: luck.randint(-9, 9) for name in NAMES}
            expected = by_hand(claim, setting)
            self.assertIs(holds(claim, setting), expected)
            self.assertIs(holds(lists(claim), list(setting.items())), expected)

    def test_edges(self):
        x = (0, (("x", 1),))
        for claim, number, right in (
                (("below", x), 0, False), (("below", x), -1, True), (("zero", x), 0, True), (("zero", x), 1, False),
                (("rests", 3, x), 0, True), (("rests", 3, x), -6, True), (("rests", 3, x), -5, False),
                (("rests", 10 ** 59, x), 10 ** 59 * 7, True), (("below", x), -10 ** 59, True)):
            self.assertIs(holds(claim, {"x": number}), right)
        self.assertIs(holds(("yes",), {}), True)
        self.assertIs(holds(["no"], ()), False)
        self.assertIs(holds(("or", ("no",), ("no",)), {"x": 1}), False)

    def test_names_that_lack(self):
        claim = ("or", ("yes",), ("zero", (0, (("b", 1), ("y", 1)))), ("rests", 2, (0, (("a", 1),))))
        self.assertEqual(told(holds, claim, {}), ("NoName", "a"))
        self.assertEqual(told(holds, claim, {"a": 0, "z": 1}), ("NoName", "b"))
        self.assertEqual(told(holds, claim, [("a", 0), ["b", 1]]), ("NoName", "y"))
        self.assertIs(holds(claim, {"y": 1, "a": 0, "b": 1, "q": 1}), True)

    def test_wrong_ones(self):
        for value in NO_PLAIN + ODD_VALUES:
            self.assertEqual(told(holds, value, None), ("BadClaim", "plain"))
            self.assertEqual(told(holds, setting=None, plain=value), ("BadClaim", "plain"))
        for value in NO_SETTINGS:
            self.assertEqual(told(holds, FEW, value), ("BadSetting", "setting"))

    def test_deep_and_wide_ones(self):
        text = "( 1 x + 0 < 0 or " * 39 + "not " * 40 + "yes" + " )" * 39
        self.assertIs(holds(read_claim(text), {"x": 1}), True)
        wide = ("or", *(("zero", (-k, (("x", 1),))) for k in range(5000)))
        self.assertIs(holds(wide, {"x": 4999}), True)
        self.assertIs(holds(wide, {"x": 5000}), False)


class ThinnedTest(unittest.TestCase):
    def check(self, claim, settings):
        less = thinned(claim)
        self.assertTrue(is_plain(less))
        self.assertLessEqual(size_of(less), size_of(claim), claim)
        self.assertLessEqual(set(free_in(less)), set(free_in(claim)))
        self.assertEqual(thinned(claim), less)
        self.assertEqual(thinned(lists(claim)), less)
        for setting in settings:
            self.assertIs(holds(less, setting), by_hand(claim, setting), (claim_text(claim), claim_text(less), setting))
        return less

    def test_alike_and_no_greater(self):
        luck = chance(11)
        for k in range(600):
            claim = random_plain(luck, NAMES, 1 + k % 4, ms=(2, 3, 4, 6, 12), factors=(-6, -3, -2, -1, 1, 2, 3, 4))
            self.check(claim, [{name: luck.randint(-9, 9) for name in NAMES} for _ in range(30)])

    def test_of_one_name(self):
        luck = chance(12)
        for k in range(400):
            claim = random_plain(luck, ("x",), 2 + k % 3, ms=(2, 3, 4, 6), span=9)
            self.check(claim, [{"x": number} for number in range(-15, 16)])

    def test_bounds_holes_and_rests_of_one_sum(self):
        luck = chance(21)

        def literal(pairs, ms, span):
            label = luck.choice(["below", "zero", "rests", "rests"])
            if label == "rests":
                claim = (label, luck.choice(ms), (luck.randint(-12, 12), pairs))
            else:
                sign = luck.choice([-1, 1])
                form = (sign * luck.randint(-span, span), tuple((name, sign * factor) for name, factor in pairs))
                claim = (label, form)
            return ("not", claim) if luck.random() < 0.5 else claim

        def joined(depth, pairs, ms, span):
            many = luck.randint(2, 5)
            if depth == 0:
                return (luck.choice(["and", "or"]), *(literal(pairs, ms, span) for _ in range(many)))
            parts = [literal(pairs, ms, span) for _ in range(many)] + [joined(depth - 1, pairs, ms, span)]
            return (luck.choice(["and", "or"]), *luck.sample(parts, len(parts)))

        for k in range(1500):
            pairs = luck.choice([(("x", 1),), (("x", 1),), (("x", 1), ("y", 1)), (("x", 2), ("y", 3))])
            claim = joined(k % 3, pairs, ((2, 4, 8), (2, 3, 6), (3, 4, 6, 12))[k % 5 % 3], 2 + k % 4)
            self.check(claim, [{"x": x, "y": 0} for x in range(-8, 14)] + [{"x": -1, "y": x} for x in range(-7, 8)])

    def test_single_divisions(self):
        luck = chance(22)
        for _ in range(600):
            claim = ("rests", luck.randint(2, 12), (luck.randint(-12, 12), (("x", luck.choice([-4, -3, -2, 1, 2, 3, 4, 6, 8])),
                                                                             ("y", luck.choice([-6, -3, 1, 2, 5, 9])))))
            claim = ("not", claim) if luck.random() < 0.3 else claim
            self.check(claim, [{"x": luck.randint(0, 12), "y": luck.randint(0, 12)} for _ in range(30)])

    def test_parts_that_are_near_each_other(self):
        for text in (
                "( ( 2 | 1 x + 1 and 1 y + 0 < 0 ) or ( 3 | 1 x + 1 and 1 y + 0 < 0 ) )",
                "( ( 1 y + 0 < 0 or 3 | 1 x + 1 ) and ( 1 y + 0 < 0 or 5 | 1 x + 1 ) )",
                "( ( 2 | 1 x + 0 and 1 y + 0 < 0 ) or ( 2 | 1 x + 1 and 1 y + 0 < 0 ) )",
                "( ( 1 x + 0 < 0 and 1 y + 0 < 0 ) or ( 1 x + 0 < 0 and 1 y + 0 = 0 ) )",
                "( ( 1 x + 0 = 0 and 1 y + 0 < 0 ) or ( not 1 x + 0 = 0 and 1 y + 0 < 0 ) )",
                "( ( 1 x + 0 < 0 and 1 y + 0 < 0 ) or ( 1 x + 0 < 0 and 1 y + 0 < 0 and 3 | 1 x + 0 ) )"):
            self.check(read_claim(text), [{"x": x, "y": y} for x in range(-6, 7) for y in range(-1, 2)])
        twice = "( ( 1 x + 0 < 0 or 1 y + 0 < 0 ) and ( 1 x + 0 < 0 or 1 y + 0 < 0 ) )"
        self.assertEqual(claim_text(thinned(read_claim(twice))), "( 1 x + 0 < 0 or 1 y + 0 < 0 )")

    def test_nots_stand_where_they_save_most(self):
        none = "not ( 1 x + 0 = 0 or 1 y + 0 = 0 or 1 z + 0 = 0 )"
        for text, less in (
                (none, none), (f"( yes and {none} )", none), (f"not not ( {none} and {none} )", none),
                (f"( {none} and 1 v + 0 = 0 and 1 w + 0 = 0 )", f"( 1 v + 0 = 0 and 1 w + 0 = 0 and {none} )"),
                ("not ( 1 x + 0 = 0 and 1 y + 0 = 0 )", "not ( 1 x + 0 = 0 and 1 y + 0 = 0 )"),
                ("not ( 1 x + 0 < 0 and 1 y + 0 < 0 )", "( -1 x + -1 < 0 or -1 y + -1 < 0 )")):
            self.assertEqual(claim_text(thinned(read_claim(text))), less)

    def test_it_is_thinned_indeed(self):
        low, high = ("not", ("below", (0, (("x", 1),)))), ("below", (-7, (("x", 2),)))
        for text, less in (
                ("( no or yes )", "yes"), ("( 1 x + 0 < 0 and no )", "no"), ("not not 1 x + 0 = 0", "1 x + 0 = 0"),
                ("( 1 x + 0 < 0 or not 1 x + 0 < 0 )", "yes"), ("( 1 x + 0 < 0 and 1 x + 5 < 0 )", "1 x + 5 < 0"),
                ("( 1 x + 0 < 0 and not 1 x + 5 < 0 and 1 x + 9 < 0 )", "no"), ("3 < 0", "no"), ("6 | 12", "yes"),
                ("4 | 2 x + 1", "no"), ("2 x + 1 = 0", "no"), ("-2 x + 6 = 0", "1 x + -3 = 0"),
                ("( 1 x + -3 < 0 or 1 x + -3 = 0 or -1 x + 3 < 0 )", "yes"),
                ("( 2 | 1 x + 0 and 3 | 1 x + 0 )", "6 | 1 x + 0"), ("( 2 | 1 x + 0 and 4 | 1 x + 1 )", "no"),
                ("( 1 x + -5 = 0 and 3 | 1 x + 1 )", "1 x + -5 = 0"), ("( 1 x + -5 = 0 and 3 | 1 x + 0 )", "no")):
            self.assertEqual(claim_text(thinned(read_claim(text))), less, text)
        self.assertEqual(thinned(("or", ("no",), ("and", low, high))), thinned(("and", low, high)))

    def test_great_numbers(self):
        big = 10 ** 59 + 7
        luck = chance(13)
        for _ in range(50):
            claim = random_plain(luck, ("x", "y"), 2, ms=(big, big - 1, 3 * 10 ** 58),
                                 factors=(big, -big, 7, big // 7), span=big)
            self.check(claim, [{"x": luck.randint(-big, big), "y": luck.randint(-3, 3)} for _ in range(10)])

    def test_wide_and_deep_ones(self):
        luck = chance(14)
        settings = [{"x": number, "y": -number} for number in (-7, 0, 1, 4999, 5000)]
        self.check(("and", *(("below", (k, (("x", k % 7 + 1), ("y", -1)))) for k in range(5000))), settings)
        self.check(("or", *(("not", ("rests", 10007, (k, (("x", 1),)))) for k in range(5000))), settings)
        self.check(("and", *(("rests", luck.randint(2, 10 ** 59), (0, (("x", 1),))) for _ in range(500))), settings)
        self.check(("or", *(("and", ("below", (k, (("x", 1), ("y", k)))), ("zero", (k, (("x", 1),))))
                            for k in range(1, 1500))), settings)
        text = "".join(f"( {k % 5 + 1} x + 1 y + {k * 7 % 13 - 6} < 0 {'and' if k % 2 else 'or'} " for k in range(79))
        self.check(read_claim(text + "1 x + 0 < 0" + " )" * 79), settings)
        text = "".join(f"not ( {k % 5 + 1} x + 1 y + {k * 7 % 13} = 0 {'and' if k % 3 else 'or'} " for k in range(39))
        self.check(read_claim(text + "1 x + 0 < 0" + " )" * 39), settings)

    def test_wrong_ones(self):
        for value in NO_PLAIN + ODD_VALUES:
            self.assertEqual(told(thinned, value), ("BadClaim", "plain"))
            self.assertEqual(told(thinned, plain=value), ("BadClaim", "plain"))

    def test_what_is_passed_stays(self):
        claim, setting = lists(FEW), [["x", 3]]
        holds(claim, setting)
        thinned(claim)
        self.assertEqual((claim, setting), (lists(FEW), [["x", 3]]))


if __name__ == "__main__":
    unittest.main()
