"""What claims mean [5] [9]: plain claims that are alike, and whether they are so at a setting."""

import unittest

from claimduel.claim_texts import claim_text, read_claim
from claimduel.claims import both, contrary, either, free_in, is_plain, put_in
from claimduel.counted import counted
from claimduel.meaning import is_so, plain_of
from claimduel.pieces import many_by, pieces_for
from claimduel.plain import holds
from claimduel.struck import all_struck, struck, struck_endless
from reckoning import endless_right, many_right, plain_so, so_by_trial, some_right
from support import BAD_CLAIMS, BAD_SETTINGS, below, chance, from_to, lists, random_bound, random_literal, random_number
from support import random_setting, random_tree, rests, told, zero

NAMES = ("k", "n")


def integers_in(value):
    if isinstance(value, tuple):
        return [number for part in value for number in integers_in(part)]
    return [value] if isinstance(value, int) else []


def depth_of(claim):
    """How many claims are above the deepest one, of a plain claim."""
    return max([1 + depth_of(part) for part in claim[1:]]) if claim[0] in ("not", "and", "or") else 0


class MeaningTest(unittest.TestCase):
    def plain(self, claim):
        plain = plain_of(claim)
        self.assertTrue(is_plain(plain))
        self.assertLessEqual(set(free_in(plain)), set(free_in(claim)))
        self.assertEqual(plain_of(lists(claim)), plain)
        self.assertLess(depth_of(plain), 80)
        self.assertLess(max([abs(number) for number in integers_in(plain)], default=0), 10 ** 60)
        return plain

    def check(self, claim, settings, expected):
        """Settings at which it is expected what the function tells of each; None for what it cannot tell."""
        plain = self.plain(claim)
        for setting in settings:
            where = (claim_text(claim), setting)
            answer = is_so(claim, setting)
            self.assertIs(answer, holds(plain, setting), where)
            self.assertIs(is_so(lists(claim), list(setting.items())), answer)
            if expected is not None:
                self.assertIs(answer, expected(setting), where)

    def test_plain_ones(self):
        luck = chance(140)
        for k in range(150):
            literals = [random_literal(luck, ("k", "n", "y"), ms=(2, 3, 4, 6, 12), factors=(-3, -2, 1, 3)) for _ in range(8)]
            claim = random_tree(luck, literals[:1 + k % 8])
            settings = [random_setting(luck, ("k", "n", "y")) for _ in range(6)]
            self.check(claim, settings, lambda setting: plain_so(claim, setting))

    def test_one_level(self):
        luck = chance(141)
        for k in range(300):
            literals = [random_literal(luck, "knx", ms=(2, 3, 4, 6), factors=(-3, -2, -1, 1, 2, 3), must="x")
                        for _ in range(1 + k % 4)]
            inner = random_tree(luck, literals)
            factor, constant, kind = luck.choice((-2, -1, 1, 3)), luck.randint(-4, 4), luck.choice(("below", "zero"))
            for claim, expected in (
                    (("some", "x", inner), lambda setting: some_right(inner, "x", setting)),
                    (("all", "x", inner), lambda setting: not some_right(("not", inner), "x", setting)),
                    (("endless", "x", inner), lambda setting: endless_right(inner, "x", setting)),
                    (("count", kind, (constant, (("n", 1),)), ((factor, "x", inner),)),
                     lambda setting: so_by_count(kind, constant + setting["n"], factor, many_right(inner, "x", setting)))):
                self.check(claim, [random_setting(luck, NAMES) for _ in range(3)], expected)

    def test_one_level_at_its_bounds(self):
        luck = chance(142)
        for _ in range(40):
            literals = [random_literal(luck, "klnyx", ms=(2, 3, 4, 6, 12), factors=(-3, -2, -1, 1, 2, 3), span=10 ** 32 - 1)
                        for _ in range(8)]
            inner = random_tree(luck, literals)
            settings = [{name: luck.randint(-10 ** 32, 10 ** 32) for name in "klny"} for _ in range(3)]
            self.check(("some", "x", inner), settings, lambda setting: some_right(inner, "x", setting))

    def test_two_levels(self):
        luck = chance(143)
        for k in range(40):
            two = luck.choice("nxy")
            literals = [random_literal(luck, "nxy", kinds=("below", "below", "zero"), span=4, must="y", two=two)
                        for _ in range(1 + k % 2)]
            literals.append(random_literal(luck, "nxy", ms=(2, 3), span=4, must="x", two=two))
            claim = random_bound(luck, random_tree(luck, literals), "yx")
            self.check(claim, [{"n": luck.randint(-4, 4)} for _ in range(2)],
                       lambda setting: so_by_trial(claim, setting, (75, 230)))

    def test_two_levels_with_more_names(self):
        luck = chance(144)
        for k in range(150):
            two = luck.choice("klnxy")
            literals = [random_literal(luck, "klnxy", kinds=("below", "zero"), must="y", two=two) for _ in range(3)]
            literals.append(random_literal(luck, "klnxy", ms=(2, 3), must="x", two=two))
            inner = random_tree(luck, literals)
            claim = random_bound(luck, inner, "yx", ("some", "all", "endless"))
            self.check(claim, [random_setting(luck, "kln") for _ in range(5)], None)

    def test_three_and_four_levels(self):
        luck = chance(145)
        for k in range(150):
            names = luck.choice(("xyz", "wxyz"))
            literals = [random_literal(luck, "n" + names, kinds=("below", "zero")) for _ in range(3)]
            claim = random_bound(luck, random_tree(luck, literals), names)
            self.check(claim, [{"n": random_number(luck)} for _ in range(5)], None)
        # Each number is the sum of two that are farther out than any bound.
        claim = read_claim("all n : endless x : some y : -1 n + 1 x + 1 y + 0 = 0")
        self.assertIs(is_so(claim, {}), True)
        claim = read_claim("all x : some y : all z : ( -1 x + 1 y + 0 < 0 and not ( 1 y + -1 z + 0 < 0 and -1 x + 1 z + 0 < 0 ) )")
        self.assertIs(is_so(claim, {}), True)
        claim = read_claim("some x : all y : all z : some w : ( 1 x + -1 y + 0 < 0 or 1 w + -1 z + 0 < 0 )")
        self.assertIs(is_so(claim, {}), True)
        claim = read_claim("some x : all y : all z : all w : ( 1 x + -1 y + 0 < 0 or 1 w + -1 z + 0 < 0 )")
        self.assertIs(is_so(claim, {}), False)

    def test_payings(self):
        for coins, low in (((3, 5), 8), ((4, 6, 15), 18), ((9, 14), 104), ((7, 8, 15), 42)):
            names = ("a", "b", "c")[:len(coins)]
            claim = zero(0, n=-1, **{name: coin for name, coin in zip(names, coins)})
            for name in names:
                claim = ("some", name, both([("not", below(0, **{name: 1})), claim]))
            payable = {0}
            for n in range(1, 160):
                payable |= {n} if any(n - coin in payable for coin in coins) else set()
            self.check(claim, [{"n": n} for n in range(-10, 160)], lambda setting: setting["n"] in payable)
            gaps = [n for n in range(160) if n not in payable]
            self.assertEqual(max(gaps), low - 1)
            self.assertIs(is_so(("all", "n", either([below(-low, n=1), claim])), {}), True)
            self.assertIs(is_so(("all", "n", either([below(1 - low, n=1), claim])), {}), False)
            lacks = both([("not", below(0, n=1)), ("not", claim)])
            self.assertIs(is_so(("endless", "n", lacks), {}), False)
            self.assertIs(is_so(("endless", "n", claim), {}), True)
            self.assertIs(is_so(("count", "zero", (-len(gaps), ()), ((1, "n", lacks),)), {}), True)

    def test_how_many_with_a_level_around(self):
        luck = chance(146)
        for k in range(60):
            inner = both([from_to("x", -3, 4), random_literal(luck, "nx", ms=(2, 3), span=4, must="x"),
                          random_literal(luck, "nx", kinds=("below",), span=4, must="nx")])
            count = ("count", luck.choice(("below", "zero")), (luck.randint(-4, 2), (("n", luck.choice((-1, 1))),)),
                     ((luck.choice((-1, 1, 2)), "x", inner),))
            claim = random_bound(luck, both([count, below(-6, n=1), below(-6, n=-1)]), "n", ("some", "endless", "count"))
            self.check(claim, [{}], lambda setting: so_by_trial(claim, setting, (60, 40)))

    def test_how_many_of_how_many(self):
        # How many windows x to y are there within 0 to n of which some length comes out.
        inner = ("count", "zero", (-3, ()), ((1, "y", read_claim("( not 1 y + 0 < 0 and -1 x + 1 y + 0 < 0 )")),))
        claim = ("count", "zero", (-1, ()), ((1, "x", inner),))
        self.assertIs(is_so(claim, {}), True)
        many = ("count", "zero", (0, (("k", -1),)), ((1, "x", both([
            ("not", below(0, x=1)), below(0, n=-1, x=1),
            ("count", "below", (-3, ()), ((1, "y", read_claim("( not 1 y + 0 < 0 and -1 x + 2 y + 0 < 0 )")),))])),))
        # There are (x + 1) // 2 such y, fewer than three for x from 0 to 4.
        self.check(many, [{"n": n, "k": k} for n in range(-1, 9) for k in range(-1, 7)],
                   lambda setting: setting["k"] == max(0, min(5, setting["n"])))

    def test_two_rows(self):
        claim = ("count", "below", (0, ()), ((2, "x", from_to("x", 0, 3)), (-1, "y", both([
            ("not", below(0, y=1)), below(0, y=1, n=-1)]))))
        self.check(claim, [{"n": n} for n in (-3, 0, 5, 6, 7, 10 ** 40)], lambda setting: setting["n"] > 6)
        luck = chance(147)
        for _ in range(40):
            rows = tuple((luck.choice((-2, -1, 1)), name, ("and", random_literal(luck, "n" + name, kinds=("below",), must=name),
                                                           random_literal(luck, "k" + name, kinds=("below",), must=name)))
                         for name in "xy")
            claim = ("count", luck.choice(("below", "zero")), (luck.randint(-3, 3), (("n", 1),)), rows)
            self.check(claim, [random_setting(luck, NAMES) for _ in range(6)],
                       lambda setting: two_rows_so(claim, setting))

    def test_divisions_alone(self):
        luck = chance(148)
        for _ in range(15):
            literals = [random_literal(luck, "x", kinds=("rests",), ms=(4, 12, 20, 35, 84, 105, 420), factors=(-3, 1, 2),
                                       span=420) for _ in range(9)]
            inner = random_tree(luck, literals)
            for label, expected in (("some", some_right(inner, "x", {})), ("endless", some_right(inner, "x", {})),
                                    ("all", not some_right(("not", inner), "x", {}))):
                self.check((label, "x", inner), [{}], lambda setting: expected)
            self.check(inner, [{"x": number} for number in (-10 ** 40, 0, 5, 10 ** 40 + 7)],
                       lambda setting: plain_so(inner, setting))

    def test_names_free_at_one_place_and_bound_at_another(self):
        claim = both([below(0, x=1), ("some", "x", zero(-5, x=1, n=1)), ("all", "x", either([below(0, x=1), below(-1, x=-1)]))])
        self.assertEqual(free_in(claim), ("n", "x"))
        self.check(claim, [{"n": n, "x": x} for n in (0, 9) for x in (-1, 0, 1)], lambda setting: setting["x"] < 0)
        claim = ("count", "zero", (0, (("x", 1),)), ((-1, "x", from_to("x", 0, 4)),))
        self.check(claim, [{"x": x} for x in range(-2, 7)], lambda setting: setting["x"] == 4)
        claim = ("some", "y", both([zero(0, x=1, y=-2), ("endless", "x", rests(2, 1, x=1, y=1))]))
        self.check(claim, [{"x": x} for x in range(-4, 5)], lambda setting: setting["x"] % 2 == 0)

    def test_edges(self):
        for claim, expected in (
                (("yes",), True), (("no",), False), (("all", "x", ("yes",)), True), (("endless", "x", ("yes",)), True),
                (("some", "x", ("no",)), False), (("count", "zero", (0, ()), ((1, "x", ("no",)),)), True),
                (("count", "below", (0, ()), ((1, "x", ("no",)),)), False),
                (("count", "below", (-9, ()), ((1, "x", ("yes",)),)), False),
                (("count", "zero", (0, ()), ((1, "x", ("yes",)), (-1, "y", ("yes",)))), False),
                (("endless", "x", below(0, x=1)), True), (("endless", "x", below(0, x=-1)), True),
                (("endless", "x", from_to("x", -10 ** 40, 10 ** 40)), False), (("not", ("not", ("yes",))), True)):
            self.check(claim, [{}, {"x": 3}], lambda setting: expected)
        claim = ("endless", "x", both([below(0, x=1), below(0, n=1)]))
        self.check(claim, [{"n": n} for n in (-1, 0)], lambda setting: setting["n"] < 0)

    def test_a_claim_and_its_contrary(self):
        luck = chance(149)
        for _ in range(80):
            literals = [random_literal(luck, "knx", span=5) for _ in range(2)]
            claim = random_bound(luck, random_tree(luck, literals), "x")
            plain, other = plain_of(claim), plain_of(contrary(claim))
            for setting in [random_setting(luck, NAMES) for _ in range(4)]:
                self.assertIs(holds(plain, setting), not holds(other, setting))
                number = random_number(luck)
                put = put_in(claim, "n", (number, ()))
                self.assertIs(is_so(put, {"k": setting["k"]}), holds(plain, {**setting, "n": number}))

    def test_others_tell_the_same(self):
        luck = chance(150)
        for _ in range(60):
            plain = random_tree(luck, [random_literal(luck, "knx", span=5, must="x") for _ in range(2)])
            pieces = pieces_for(plain, "x")
            kind, form = luck.choice(("below", "zero")), (luck.randint(-5, 2), ())
            row = (luck.choice((-1, 1, 2)), "x", plain)
            for setting in [random_setting(luck, NAMES) for _ in range(4)]:
                self.assertIs(is_so(("some", "x", plain), setting), holds(struck(plain, "x"), setting))
                self.assertIs(is_so(("endless", "x", plain), setting), holds(struck_endless(plain, "x"), setting))
                self.assertIs(is_so(("some", "x", ("some", "k", plain)), setting),
                              holds(all_struck(plain, ["x", "k"]), setting))
                answer = is_so(("count", kind, form, (row,)), setting)
                self.assertIs(answer, holds(counted(kind, form, [row]), setting))
                self.assertIs(answer, so_by_count(kind, form[0], row[0], many_by(pieces, setting)))

    def test_wrong_ones(self):
        for value in BAD_CLAIMS:
            self.assertEqual(told(plain_of, value), ("BadClaim", "claim"))
            self.assertEqual(told(is_so, setting=None, claim=value), ("BadClaim", "claim"))
        for value in BAD_SETTINGS:
            self.assertEqual(told(is_so, ("yes",), value), ("BadSetting", "setting"))
        claim = ("or", ("yes",), ("some", "a", below(0, a=1, c=1, y=1)), below(0, b=1, x=1))
        self.assertEqual(told(is_so, claim, {"a": 1}), ("NoName", "b"))
        self.assertEqual(told(is_so, claim, {"b": 1, "x": 1}), ("NoName", "c"))
        self.assertEqual(told(is_so, claim, {"b": 1, "c": 1, "x": 1}), ("NoName", "y"))

    def test_what_is_passed_stays(self):
        claim = lists(("some", "x", both([from_to("x", 0, 4), zero(0, x=2, n=-1)])))
        kept, setting = lists(("some", "x", both([from_to("x", 0, 4), zero(0, x=2, n=-1)]))), [["n", 4]]
        plain_of(claim)
        is_so(claim, setting)
        self.assertEqual((claim, setting), (kept, [["n", 4]]))


def so_by_count(kind, constant, factor, many):
    if many is None:
        return False
    return constant + factor * many < 0 if kind == "below" else constant + factor * many == 0


def two_rows_so(claim, setting):
    _, kind, form, rows = claim
    counts = [many_right(row[2], row[1], setting) for row in rows]
    if None in counts:
        return False
    total = form[0] + setting["n"] + sum(row[0] * many for row, many in zip(rows, counts)) if form[1] else None
    return total < 0 if kind == "below" else total == 0


if __name__ == "__main__":
    unittest.main()
