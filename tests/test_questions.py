"""Questions [9]: right numbers, how many, what is told, what is left without names, what lies between."""

import unittest

from claimduel.check_verdicts import shows_told
from claimduel.claim_texts import claim_text, read_claim
from claimduel.claims import both, either, free_in, is_plain
from claimduel.layouts import Layout, right_for
from claimduel.meaning import is_so, plain_of
from claimduel.papers import Denial, Paper
from claimduel.plain import holds
from claimduel.questions import Told, Untold, all_for, between, greatest_for, least_for, many_for, told_by, without
from claimduel.rows import is_row, number_by
from claimduel.struck import all_struck
from claimduel.verdicts import Follows, follows
from reckoning import many_right, near_numbers, plain_so, right_rows, so_by_trial
from support import BAD_CLAIMS, BAD_NAMES, BAD_SETTINGS, ODD_VALUES, Odd, below, chance, from_to, lists, random_bound
from support import random_literal, random_setting, random_tree, rests, told, zero

ASKS = (all_for, least_for, greatest_for, many_for)
HALF, SUMS = read_claim("-1 n + 2 x + 0 = 0"), read_claim("2 | 1 n + 1 x + 0")


def paying(*coins):
    claim = zero(0, n=-1, **{name: coin for name, coin in zip("abc", coins)})
    for name in "abc"[:len(coins)]:
        claim = ("some", name, both([("not", below(0, **{name: 1})), claim]))
    return claim


class AskTest(unittest.TestCase):
    def check(self, claim, name, setting):
        layout = all_for(claim, name, setting)
        self.assertIsInstance(layout, Layout)
        self.assertEqual((least_for(claim, name, setting), greatest_for(claim, name, setting), many_for(claim, name, setting)),
                         (layout.least(), layout.greatest(), layout.many()))
        more = list({**setting, name: 10 ** 20, "zz": 4}.items())
        self.assertEqual([ask(lists(claim), name, more) for ask in ASKS], [ask(claim, name, setting) for ask in ASKS])
        return layout

    def test_plain_ones(self):
        luck = chance(170)
        for k in range(150):
            literals = [random_literal(luck, "knx", ms=(2, 3, 4), factors=(-3, -1, 1, 2)) for _ in range(1 + k % 4)]
            claim, setting = random_tree(luck, literals), random_setting(luck, "kn")
            layout = self.check(claim, "x", setting)
            self.assertTrue(layout.same(right_for(claim, "x", setting)))
            self.assertEqual(layout.many(), many_right(claim, "x", setting))
            for number in near_numbers(claim, "x", setting):
                self.assertIs(layout.has(number), plain_so(claim, {**setting, "x": number}))

    def test_one_level(self):
        luck = chance(171)
        for k in range(150):
            literals = [random_literal(luck, "knxy", ms=(2, 3), must="x") for _ in range(1 + k % 3)]
            claim, setting = random_bound(luck, random_tree(luck, literals), "y"), random_setting(luck, "kn")
            layout = self.check(claim, "x", setting)
            for number in [*range(-20, 21), *(setting["n"] + j for j in range(-9, 10)), 10 ** 45, -10 ** 45 - 1]:
                self.assertIs(layout.has(number), is_so(claim, {**setting, "x": number}), claim_text(claim))

    def test_bounds_of_one_level(self):
        luck = chance(172)
        for k in range(30):
            literals = [random_literal(luck, "nxy", ms=(2, 3), span=4, must="xy") for _ in range(2)]
            claim = random_bound(luck, random_tree(luck, literals), "y")
            n = luck.randint(-3, 3)
            layout = self.check(claim, "x", {"n": n})
            for number in range(-12, 13):
                self.assertIs(layout.has(number), so_by_trial(claim, {"n": n, "x": number}, (90,)), claim_text(claim))

    def test_payings(self):
        for coins, gaps in (((3, 5), [1, 2, 4, 7]), ((2,), None), ((4, 7), [1, 2, 3, 5, 6, 9, 10, 13, 17]), ((1, 9), []),
                            ((6, 10, 15), None), ((5, 9, 8), [1, 2, 3, 4, 6, 7, 11, 12])):
            lacks = both([("not", below(0, n=1)), ("not", paying(*coins))])
            layout = self.check(lacks, "n", {})
            if gaps is not None:
                self.assertEqual([n for n in range(-5, 60) if layout.has(n)], gaps)
                self.assertEqual((layout.many(), layout.least(), layout.greatest()),
                                 (len(gaps), gaps[0] if gaps else None, gaps[-1] if gaps else None))
        layout = self.check(both([("not", below(0, n=1)), ("not", paying(6, 10, 15))]), "n", {})
        self.assertEqual((layout.many(), layout.greatest()), (15, 29))
        layout = self.check(paying(14, 15), "n", {})
        self.assertEqual((layout.many(), layout.least(), layout.has(181), layout.has(182)), (None, 0, False, True))

    def test_how_manys(self):
        ahead = both([("not", below(0, x=1)), below(0, n=-1, x=1), rests(3, 1, x=1)])
        claim = ("count", "zero", (0, (("k", -1),)), ((1, "x", ahead),))
        self.assertTrue(self.check(claim, "n", {"k": 4}).same(Layout([(12, 14, 1)])))
        self.assertTrue(self.check(claim, "k", {"n": 10 ** 40}).same(Layout([((10 ** 40) // 3, (10 ** 40) // 3, 1)])))
        self.assertEqual(self.check(claim, "n", {"k": -1}).rows, ())
        claim = ("count", "below", (0, (("k", -1),)), ((1, "x", ahead),))
        self.assertTrue(self.check(claim, "n", {"k": 4}).same(Layout([(None, 11, 1)])))
        self.assertEqual(self.check(("count", "below", (0, ()), ((1, "x", below(0, n=1, x=1)),)), "n", {}).rows, ())

    def test_edges(self):
        whole = Layout([(None, -1, 1), (0, None, 1)])
        self.assertTrue(self.check(("yes",), "x", {}).same(whole))
        self.assertEqual(self.check(("no",), "x", {}).rows, ())
        self.assertTrue(self.check(("some", "x", HALF), "q", {"n": 4}).same(whole))
        self.assertEqual(self.check(("some", "x", HALF), "q", {"n": 5}).rows, ())
        self.assertTrue(self.check(("some", "x", HALF), "n", {}).same(Layout([(None, 0, 2), (2, None, 2)])))
        # x is bound in the first part; it is free in the second one, and is asked for there.
        claim = both([("some", "x", HALF), zero(-7, x=1)])
        self.assertEqual(self.check(claim, "x", {"n": 2}).rows, Layout([(7, 7, 1)]).rows)
        self.assertEqual(self.check(claim, "x", {"n": 3}).rows, ())
        self.assertTrue(self.check(rests(420, 17, n=1), "n", {}).same(Layout([(None, -17, 420), (403, None, 420)])))

    def test_too_many(self):
        wide = ("and", *(("not", rests(m, 1, x=1)) for m in (2, 3, 5, 7, 11, 13, 17, 19)))
        self.assertEqual(told(all_for, wide, "x", {}), ("TooMany", "rows", 1000))
        for ask in ASKS[1:]:
            self.assertIn(told(ask, wide, "x", {}), (None, ("TooMany", "rows", 1000)))
        odd_ones = either([rests(m, k, x=1) for m, k in ((4, 1), (3, 0), (5, 2), (7, 3))])
        self.check(odd_ones, "x", {})

    def test_wrong_ones(self):
        for ask in ASKS:
            for value in BAD_CLAIMS:
                self.assertEqual(told(ask, value, None, None), ("BadClaim", "claim"))
            for value in BAD_NAMES:
                self.assertEqual(told(ask, ("yes",), value, None), ("BadName", "name"))
            for value in BAD_SETTINGS:
                self.assertEqual(told(ask, setting=value, name="x", claim=("yes",)), ("BadSetting", "setting"))
            claim = ("some", "a", below(0, a=1, b=1, c=1, x=1))
            self.assertEqual(told(ask, claim, "x", {}), ("NoName", "b"))
            self.assertEqual(told(ask, claim, "x", {"b": 1, "a": 1, "x": 2}), ("NoName", "c"))
            self.assertEqual(told(ask, claim, "b", {"c": 1}), ("NoName", "x"))
            self.assertEqual(told(ask, claim, "a", {"c": 1, "x": 1}), ("NoName", "b"))


class ToldTest(unittest.TestCase):
    def check(self, claim, name):
        paper = told_by(claim, name)
        self.assertEqual(told_by(lists(claim), name), paper)
        self.assertIs(shows_told(claim, name, paper), True, (claim_text(claim), paper.parts))
        others = [other for other in free_in(claim) if other != name]
        if paper.word == "told":
            self.assertTrue(paper)
            for row in paper.rows:
                self.assertTrue(is_row(row) and row[0] == "at")
                self.assertLessEqual({other for other, _ in row[2][1]}, set(others))
        else:
            self.assertFalse(paper)
            self.assertEqual([other for other, _ in paper.setting], others)
            self.assertLess(paper.one, paper.other)
            for number in (paper.one, paper.other):
                self.assertTrue(is_so(claim, {**dict(paper.setting), name: number}))
        return paper

    def test_against_trial(self):
        luck, words = chance(173), {"told": 0, "untold": 0}
        for k in range(400):
            literals = [random_literal(luck, "nx", kinds=("below", "zero", "zero"), must="x", span=4) for _ in range(1 + k % 3)]
            claim = random_tree(luck, literals)
            paper = self.check(claim, "x")
            words[paper.word] += 1
            if paper.word == "told":
                for n in (*range(-10, 11), 10 ** 40, -10 ** 40):
                    right = [number for number, _ in right_rows(claim, "x", {"n": n})]
                    self.assertLessEqual(len(right), 1)
                    self.assertIn(many_right(claim, "x", {"n": n}), (0, 1))
                    numbers = [number_by(row, {"n": n}) for row in paper.rows]
                    self.assertTrue(all(number in numbers for number in right))
        self.assertGreater(min(words.values()), 40)

    def test_edges(self):
        for claim, name, word in (
                (HALF, "x", "told"), (HALF, "n", "told"), (SUMS, "x", "untold"), (("no",), "x", "told"), (("yes",), "x", "untold"),
                (zero(-5, x=1), "x", "told"), (zero(-5, x=1), "q", "untold"), (("and", zero(-5, x=1), ("no",)), "q", "told"),
                (("some", "n", HALF), "x", "untold"), (both([HALF, SUMS]), "x", "told"),
                (both([below(0, n=1, x=-1), below(-2, n=-1, x=1)]), "x", "told"),
                (both([below(0, n=1, x=-1), below(-3, n=-1, x=1)]), "x", "untold"),
                (either([zero(0, n=1, x=-1), zero(0, n=1, x=1)]), "x", "untold"),
                (both([either([zero(0, n=1, x=-1), zero(0, n=1, x=1)]), ("not", below(0, x=1))]), "x", "told"),
                (("some", "y", both([zero(0, n=-1, y=3), zero(1, x=-1, y=1)])), "x", "told")):
            self.assertEqual(self.check(claim, name).word, word, claim_text(claim))
        self.assertEqual(told_by(either([zero(0, n=1, x=-1), zero(0, n=1, x=1)]), "x").word, "untold")

    def test_which_papers_are_right(self):
        at_half = ("at", 2, (0, (("n", 1),)))
        for claim, name, value, expected in (
                (HALF, "x", Told([at_half]), True), (HALF, "x", Told([("at", 1, (0, ())), ("at", 4, (0, (("n", 2),)))]), True),
                (HALF, "x", Told(lists((at_half,))), True), (HALF, "x", Told([("at", 1, (0, (("n", 1),)))]), False),
                (HALF, "x", Told([]), False), (HALF, "x", Told([("at", 2, (0, (("x", 2),)))]), False),
                (HALF, "x", Told([at_half, ("at", 1, (0, (("k", 1),)))]), False), (HALF, "x", Told([("left", 0, 1, ())]), False),
                (HALF, "x", Told([at_half, ("right", 0, 1, [(2, (0, (("n", 1),)))])]), False), (HALF, "x", Told(at_half), False),
                (HALF, "x", Told([at_half[:2]]), False), (HALF, "x", Told(None), False), (HALF, "x", Told("rows"), False),
                (HALF, "x", Told([("at", 0, (0, (("n", 1),)))]), False), (HALF, "n", Told([("at", 1, (0, (("x", 2),)))]), True),
                (HALF, "x", Paper("told", (at_half,)), False), (HALF, "x", Untold([("n", 2)], 1, 1), False),
                (HALF, "x", Untold([("n", 2)], 0, 1), False), (("no",), "x", Told([]), True), (SUMS, "x", Told([at_half]), False),
                (SUMS, "x", Untold([("n", 1)], 1, 3), True), (SUMS, "x", Untold((["n", 10 ** 40],), -2, 4), True),
                (SUMS, "x", Untold([("n", 1)], 3, 1), False), (SUMS, "x", Untold([("n", 1)], 1, 1), False),
                (SUMS, "x", Untold([("n", 1)], 1, 2), False), (SUMS, "x", Untold([("n", 1)], 0, 2), False),
                (SUMS, "x", Untold({"n": 1}, 1, 3), False), (SUMS, "x", Untold([("n", 1), ("x", 1)], 1, 3), False),
                (SUMS, "x", Untold([], 1, 3), False), (SUMS, "x", Untold([("n", True)], 1, 3), False),
                (SUMS, "x", Untold([("n", 1)], True, 3), False), (SUMS, "x", Untold([("n", 0)], False, 2), False),
                (SUMS, "x", Untold([("n", 1)], 1, None), False), (SUMS, "x", Untold([("n", 1)], "1", "3"), False),
                (SUMS, "x", Denial("untold", (("n", 1),), 1, 3), False), (SUMS, "x", Follows(), False),
                (("yes",), "q", Untold([], 4, 5), True), (zero(-5, x=1), "x", Told([("at", 2, (10, ()))]), True)):
            self.assertIs(shows_told(claim, name, value), expected, value.parts)
        for value in ODD_VALUES:
            self.assertIs(shows_told(HALF, "x", value), False)
            self.assertIs(shows_told(HALF, "x", Told(value)), False)
            self.assertIs(shows_told(HALF, "x", Told([value])), False)
            self.assertIs(shows_told(SUMS, "x", Untold(value, 1, 3)), False)
            self.assertIs(shows_told(SUMS, "x", Untold([("n", 1)], value, 3)), type(value) is int and value == -1)
        self.assertIs(shows_told(read_claim("( 1 n + -1 x + 0 = 0 and not 1 n + 0 < 0 )"), "x", Told([("at", 1, (0, (("n", 1),)))])), True)
        parts = both([("not", below(0, x=1)), either([zero(0, n=1, x=-1), zero(0, n=1, x=1)])])
        one, other = ("at", 1, (0, (("n", 1),))), ("at", 1, (0, (("n", -1),)))
        self.assertEqual([shows_told(parts, "x", Told(rows)) for rows in ([one], [other], [one, other])], [False, False, True])

    def test_papers(self):
        paper = Told(rows=[["at", 1, [0, []]]])
        self.assertEqual((paper.word, paper.rows, paper.parts, bool(paper)), ("told", (("at", 1, (0, ())),), ((("at", 1, (0, ())),),), True))
        paper = Untold(other=3, one=1, setting=[["n", 1]])
        self.assertEqual((paper.setting, paper.one, paper.other), ((("n", 1),), 1, 3))
        self.assertEqual((paper.word, paper.parts, bool(paper)), ("untold", ((("n", 1),), 1, 3), False))
        self.assertIsInstance(paper, Denial)

    def test_wrong_ones(self):
        for value in BAD_CLAIMS:
            self.assertEqual(told(told_by, value, None), ("BadClaim", "claim"))
            self.assertEqual(told(shows_told, value, None, None), ("BadClaim", "claim"))
        for value in BAD_NAMES:
            self.assertEqual(told(told_by, ("yes",), value), ("BadName", "name"))
            self.assertEqual(told(shows_told, value=None, name=value, claim=("yes",)), ("BadName", "name"))


class WithoutTest(unittest.TestCase):
    def test_the_same_as_struck(self):
        luck = chance(174)
        for k in range(120):
            literals = [random_literal(luck, "knx", ms=(2, 3)) for _ in range(3)]
            claim, names = random_tree(luck, literals), luck.sample("knxq", luck.randint(0, 3))
            found, expected = without(claim, names), all_struck(claim, names)
            self.assertTrue(is_plain(found))
            self.assertLessEqual(set(free_in(found)), set(free_in(claim)) - set(names))
            self.assertEqual(without(lists(claim), tuple(names)), found)
            for setting in [random_setting(luck, "knxq") for _ in range(5)]:
                self.assertIs(holds(found, setting), holds(expected, setting))

    def test_one_level(self):
        luck = chance(175)
        for k in range(60):
            literals = [random_literal(luck, "nxy", ms=(3,), must="x") for _ in range(2)]
            claim = random_bound(luck, random_tree(luck, literals), "y")
            found = without(claim, ["x"])
            self.assertLessEqual(set(free_in(found)), {"n"})
            for n in (-10 ** 35, -4, 0, 1, 7):
                self.assertIs(holds(found, {"n": n}), many_for(claim, "x", {"n": n}) != 0)

    def test_edges(self):
        self.assertEqual(without(HALF, ["n", "x"]), ("yes",))
        self.assertEqual(without(("no",), []), ("no",))
        # The name is bound within, too: there it is another one.
        claim = both([zero(-3, x=1), ("some", "x", HALF)])
        self.assertEqual([holds(without(claim, ["x"]), {"n": n}) for n in (2, 3)], [True, False])
        self.assertEqual([holds(without(paying(3, 5), ()), {"n": n}) for n in (7, 8)], [False, True])

    def test_wrong_ones(self):
        for value in BAD_CLAIMS:
            self.assertEqual(told(without, value, None), ("BadClaim", "claim"))
        for value in [None, "x", {"x": 1}, ["x", "x"], ("a", "b", "a"), 5, [["x"]]] + [["x", name] for name in BAD_NAMES]:
            self.assertEqual(told(without, names=value, claim=("yes",)), ("BadName", "names"))


class BetweenTest(unittest.TestCase):
    def check(self, one, other):
        middle = between(one, other)
        self.assertTrue(is_plain(middle))
        self.assertLessEqual(set(free_in(middle)), set(free_in(one)) & set(free_in(other)))
        self.assertEqual(between(lists(one), lists(other)), middle)
        self.assertTrue(follows(one, middle))
        self.assertTrue(follows(middle, other))
        return middle

    def test_against_follows(self):
        luck, words = chance(176), {True: 0, False: 0}
        for k in range(250):
            one = random_tree(luck, [random_literal(luck, luck.choice(("n", "nx", "kn")), ms=(3,)) for _ in range(2)])
            other = random_tree(luck, [random_literal(luck, luck.choice(("n", "ny")), ms=(3,)) for _ in range(2)])
            if luck.random() < 0.5:
                other = either([other, without(one, ["k", "x"])])
            words[bool(follows(one, other))] += 1
            if follows(one, other):
                self.check(one, other)
            else:
                self.assertEqual(told(between, one, other), ("Misfit", "other"))
        self.assertGreater(min(words.values()), 40)

    def test_with_levels(self):
        luck = chance(177)
        for k in range(60):
            one = random_bound(luck, random_tree(luck, [random_literal(luck, "nxy", ms=(3,), must="n") for _ in range(2)]), "y")
            other = either([plain_of(without(one, ["x"])), zero(0, k=1, n=1)])
            self.check(one, other)

    def test_edges(self):
        self.assertEqual(self.check(below(0, x=1), ("yes",)), ("yes",))
        self.assertEqual(self.check(("no",), below(0, x=1)), ("no",))
        self.assertEqual(free_in(self.check(below(0, x=1), either([below(0, y=1), ("not", below(0, y=1))]))), ())
        chain = both([below(0, a=1, b=-1), below(0, b=1, c=-1)])
        middle = self.check(chain, either([below(1, a=1, c=-1), zero(0, d=1)]))
        self.assertEqual([holds(middle, {"a": 0, "c": c}) for c in (1, 2)], [False, True])
        self.check(paying(3, 5), either([("not", from_to("n", 7, 8)), zero(0, k=1)]))

    def test_wrong_ones(self):
        for value in BAD_CLAIMS:
            self.assertEqual(told(between, value, None), ("BadClaim", "one"))
            self.assertEqual(told(between, ("yes",), value), ("BadClaim", "other"))
            self.assertEqual(told(between, other=value, one=Odd()), ("BadClaim", "one"))
        self.assertEqual(told(between, ("yes",), ("no",)), ("Misfit", "other"))

    def test_what_is_passed_stays(self):
        one, other, names, setting = lists(HALF), lists(SUMS), ["x"], [["n", 4]]
        between(one, ["or", other, ["yes"]])
        without(one, names)
        told_by(one, "x")
        for ask in ASKS:
            ask(one, "x", setting)
        self.assertEqual((one, other, names, setting), (lists(HALF), lists(SUMS), ["x"], [["n", 4]]))


if __name__ == "__main__":
    unittest.main()
