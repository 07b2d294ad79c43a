"""Verdicts [9]: always, never, follows, alike; and which papers on them are right [3]."""

import unittest

from claimduel.check_verdicts import shows_alike, shows_follows, shows_judged
from claimduel.claim_texts import claim_text, read_claim
from claimduel.claims import both, contrary, either, free_in
from claimduel.meaning import is_so, plain_of
from claimduel.papers import Denial, Paper
from claimduel.questions import Told
from claimduel.verdicts import Alike, Always, Follows, Never, Sometimes, Unless, Unlike, alike, follows, judged
from support import BAD_CLAIMS, ODD_VALUES, Odd, below, chance, from_to, lists, random_bound, random_literal, random_setting
from support import random_tree, rests, told, zero

EVEN, ODD_ONES = read_claim("some x : -1 n + 2 x + 0 = 0"), read_claim("some x : -1 n + 2 x + 1 = 0")
FOUR = rests(4, 0, n=1)
SINGLE = {"Always": Always, "Never": Never, "Follows": Follows, "Alike": Alike}


def random_small(luck):
    """A claim of any kind, small with some put ahead for each free name."""
    kind = luck.choice("abcde")
    if kind == "a":
        literals = [random_literal(luck, "n", ms=(2, 3, 4, 6, 12), factors=(-3, -2, 1, 3)) for _ in range(luck.randint(1, 4))]
        return random_tree(luck, literals)
    if kind == "b":
        literals = [random_literal(luck, "nx", ms=(3,), must="x", two="x") for _ in range(luck.randint(1, 2))]
        return random_bound(luck, random_tree(luck, literals), "x")
    if kind == "c":
        literals = [random_literal(luck, "knx", kinds=("below", "zero"), must="x") for _ in range(luck.randint(1, 2))]
        return random_bound(luck, random_tree(luck, literals), "x", ("some", "all", "endless"))
    if kind == "d":
        return random_tree(luck, [random_literal(luck, "kn", kinds=("below", "zero")) for _ in range(luck.randint(1, 2))])
    return random_tree(luck, [random_literal(luck, "n", ms=(2, 4, 7, 420), kinds=("rests",)) for _ in range(luck.randint(1, 3))])


class PapersTest(unittest.TestCase):
    def test_papers(self):
        for name, paper, parts, is_denial in (
                ("always", Always(), (), False), ("never", Never(), (), True), ("follows", Follows(), (), False),
                ("alike", Alike(), (), False), ("sometimes", Sometimes([["n", 1]], 7), ((("n", 1),), 7), False),
                ("unless", Unless([["n", 1]]), ((("n", 1),),), True), ("unlike", Unlike(setting="x"), ("x",), True)):
            self.assertEqual((paper.word, paper.parts, bool(paper)), (name, parts, not is_denial))
            self.assertIsInstance(paper, Paper)
            self.assertIs(isinstance(paper, Denial), is_denial)
        paper = Sometimes(no=[("n", 1)], yes=[])
        self.assertEqual((paper.yes, paper.no), ((), (("n", 1),)))
        self.assertEqual((Unless([1]).setting, Unlike([2]).setting), ((1,), (2,)))
        self.assertEqual(Sometimes([1], [2]), Sometimes((1,), (2,)))
        self.assertFalse(Sometimes([1], [2]) == Sometimes([1], [3]))
        self.assertFalse(Unless([1]) == Unlike([1]))
        self.assertFalse(Always() == Paper("always"))
        self.assertFalse(Always() == Follows())
        self.assertTrue(Never() == Never())


class JudgedTest(unittest.TestCase):
    def check(self, claim):
        paper = judged(claim)
        self.assertEqual(judged(lists(claim)), paper)
        self.assertIs(shows_judged(claim, paper), True)
        if paper.word == "sometimes":
            for setting, right in ((paper.yes, True), (paper.no, False)):
                self.assertIsInstance(setting, tuple)
                self.assertEqual([name for name, _ in setting], list(free_in(claim)))
                self.assertIs(is_so(claim, setting), right, claim_text(claim))
        self.assertEqual(bool(paper), paper.word != "never")
        return paper.word

    def test_against_settings(self):
        luck, words = chance(160), {}
        for _ in range(300):
            claim = random_small(luck)
            word = self.check(claim)
            words[word] = words.get(word, 0) + 1
            plain = plain_of(claim)
            for _ in range(15):
                self.assertNotEqual(is_so(plain, random_setting(luck, "kn")), {"always": False, "never": True}.get(word))
            other = {"always": "never", "never": "always", "sometimes": "sometimes"}[word]
            self.assertEqual(self.check(contrary(claim)), other)
            self.assertEqual(self.check(either([claim, contrary(claim)])), "always")
            self.assertEqual(self.check(both([claim, contrary(claim)])), "never")
        self.assertGreater(min(words.values()), 20)

    def test_edges(self):
        for claim, word in (
                (("yes",), "always"), (("no",), "never"), (("or", below(0, n=1), ("not", below(0, n=1))), "always"),
                (below(0, n=1), "sometimes"), (rests(2, 1, n=2), "never"), (rests(2, 0, n=2), "always"),
                (("and", from_to("n", 10 ** 40, 10 ** 40 + 6), rests(7, -5, n=1)), "sometimes"),
                (("and", from_to("n", 7 * 10 ** 40 + 1, 7 * 10 ** 40 + 7), rests(7, 0, n=1)), "never"),
                (either([rests(2, k, n=1) for k in (0, 1)]), "always"), (("endless", "n", EVEN), "always"),
                (zero(0, k=2, n=-6, x=15), "sometimes"), (zero(1, k=2, n=-6, x=16), "never"),
                (("count", "zero", (0, (("n", 1),)), ((1, "x", ("yes",)),)), "never"),
                (read_claim("all x : some y : ( 1 x + -1 y + 0 < 0 and 1 n + -1 y + 0 < 0 )"), "always"),
                (read_claim("some y : all x : ( 1 x + -1 y + 0 < 0 or 1 n + -1 x + 0 = 0 )"), "never")):
            self.assertEqual(self.check(claim), word, claim_text(claim))
        week = read_claim("( 7 | 1 x + 0 and not -1 d + 1 x + 0 < 0 and -1 d + 1 x + -7 < 0 )")
        self.assertEqual(self.check(("count", "zero", (-1, ()), ((1, "x", week),))), "always")
        names = read_claim("( 1 a + -1 b + 0 < 0 and 1 b + -1 c + 0 < 0 and 1 c + -1 d + 0 < 0 and -1 a + 1 d + -4 < 0 )")
        self.assertEqual(self.check(names), "sometimes")
        names = read_claim("( 1 a + -1 b + 0 < 0 and 1 b + -1 c + 0 < 0 and 1 c + -1 d + 0 < 0 and -1 a + 1 d + -3 < 0 )")
        self.assertEqual(self.check(names), "never")

    def test_names_that_do_not_matter(self):
        claim = ("or", below(0, n=1), ("and", below(0, k=1), ("not", below(0, k=1))))
        paper = judged(claim)
        self.assertEqual([[name for name, _ in setting] for setting in (paper.yes, paper.no)], [["k", "n"], ["k", "n"]])

    def test_which_papers_are_right(self):
        right = Sometimes([("n", 0)], [("n", 7)])
        for claim, value, expected in (
                (EVEN, right, True), (EVEN, Sometimes([["n", 10 ** 40]], (("n", 1),)), True),
                (EVEN, Sometimes([("n", 7)], [("n", 0)]), False), (EVEN, Sometimes([("n", 0)], [("n", 2)]), False),
                (EVEN, Sometimes({"n": 0}, {"n": 7}), False), (EVEN, Sometimes([("n", False)], [("n", True)]), False),
                (EVEN, Sometimes([("n", 0), ("x", 0)], [("n", 7)]), False), (EVEN, Sometimes([], [("n", 7)]), False),
                (EVEN, Sometimes([("n", 0)], [("n", 7), ("n", 7)]), False), (EVEN, Sometimes(None, None), False),
                (EVEN, Sometimes([("n", 0, 0)], [("n", 7)]), False), (EVEN, Sometimes("n0", "n7"), False),
                (EVEN, Sometimes([("n", 0.0)], [("n", 7)]), False), (EVEN, Always(), False), (EVEN, Never(), False),
                (EVEN, Paper("sometimes", (("n", 0),), (("n", 7),)), False), (EVEN, (("n", 0),), False),
                (("yes",), Always(), True), (("yes",), Never(), False), (("yes",), Paper("always"), False),
                (("yes",), Follows(), False), (("yes",), Sometimes([], []), False), (("no",), Never(), True),
                (("no",), Always(), False), (("no",), Denial("never"), False), (("no",), Sometimes((), ()), False),
                (either([EVEN, ODD_ONES]), Always(), True), (both([EVEN, ODD_ONES]), Never(), True)):
            self.assertIs(shows_judged(claim, value), expected, claim_text(claim))
        two = below(0, b=1, y=1)
        self.assertIs(shows_judged(two, Sometimes([("b", -1), ("y", 0)], [("b", 0), ("y", 0)])), True)
        self.assertIs(shows_judged(two, Sometimes([("y", 0), ("b", -1)], [("b", 0), ("y", 0)])), False)
        self.assertIs(shows_judged(two, Sometimes([("b", -1), ("y", 0)], [("y", 0), ("b", 0)])), False)
        for value in ODD_VALUES:
            self.assertIs(shows_judged(EVEN, value), False)
            self.assertIs(shows_judged(EVEN, Sometimes(value, [("n", 7)])), False)
            self.assertIs(shows_judged(EVEN, Sometimes([("n", 0)], [("n", value)])), value == -1 if type(value) is int else False)


class FollowsTest(unittest.TestCase):
    def check(self, one, other):
        for function, shows, good in ((follows, shows_follows, "follows"), (alike, shows_alike, "alike")):
            paper = function(one, other)
            self.assertEqual(function(lists(one), lists(other)), paper)
            self.assertIs(shows(one, other, paper), True)
            self.assertEqual(bool(paper), paper.word == good)
            if not paper:
                self.assertEqual([name for name, _ in paper.setting], sorted({*free_in(one), *free_in(other)}))
                answers = (is_so(one, paper.setting), is_so(other, paper.setting))
                self.assertIn(answers, [(True, False)] if good == "follows" else [(True, False), (False, True)])
        self.assertEqual(bool(alike(one, other)), bool(follows(one, other)) and bool(follows(other, one)))
        return bool(follows(one, other))

    def test_against_settings(self):
        luck = chance(161)
        followed = 0
        for _ in range(200):
            one, other = random_small(luck), random_small(luck)
            for pair in ((one, other), (one, either([one, other])), (both([one, other]), other)):
                found = self.check(*pair)
                followed += found
                plains = plain_of(pair[0]), plain_of(pair[1])
                for _ in range(6):
                    setting = random_setting(luck, "kn")
                    if found:
                        self.assertFalse(is_so(plains[0], setting) and not is_so(plains[1], setting))
                    if alike(*pair):
                        self.assertIs(is_so(plains[0], setting), is_so(plains[1], setting))
            self.assertTrue(follows(one, either([one, other])))
            self.assertTrue(follows(both([one, other]), other))
            self.assertTrue(alike(one, plain_of(one)))
            self.assertFalse(alike(one, contrary(one)))
        self.assertGreater(followed, 390)

    def test_what_follows_from_what_follows(self):
        luck = chance(162)
        many = 0
        for _ in range(300):
            claims = [random_tree(luck, [random_literal(luck, "n", ms=(2, 4), span=3) for _ in range(2)]) for _ in range(3)]
            if follows(claims[0], claims[1]) and follows(claims[1], claims[2]):
                many += 1
                self.assertTrue(follows(claims[0], claims[2]))
        self.assertGreater(many, 10)

    def test_edges(self):
        yes, no = ("yes",), ("no",)
        for one, other, expected in (
                (no, yes, True), (yes, no, False), (yes, yes, True), (FOUR, EVEN, True), (EVEN, FOUR, False),
                (below(0, n=1), below(0, k=1), False), (below(0, n=1), below(-1, n=1), True), (zero(0, n=2, k=-3), rests(3, 0, n=1), True),
                (both([below(0, a=1, b=-1), below(0, b=1, c=-1)]), below(1, a=1, c=-1), True),
                (both([below(0, a=1, b=-1), below(0, b=1, c=-1)]), below(2, a=1, c=-1), False),
                (EVEN, read_claim("not 2 | 1 n + 1"), True), (no, below(0, z=1), True)):
            self.assertIs(self.check(one, other), expected)
        self.assertEqual(follows(yes, below(0, z=1)).setting, (("z", follows(yes, below(0, z=1)).setting[0][1]),))
        self.assertGreaterEqual(follows(yes, below(0, z=1)).setting[0][1], 0)

    def test_which_papers_are_right(self):
        free = ("or", FOUR, zero(0, k=1))
        for one, other, value, expected in (
                (EVEN, FOUR, Unless([("n", 2)]), True), (EVEN, FOUR, Unless((["n", -10 ** 40 - 2],)), True),
                (EVEN, FOUR, Unless([("n", 4)]), False), (EVEN, FOUR, Unless([("n", 1)]), False), (EVEN, FOUR, Unless({"n": 2}), False),
                (EVEN, FOUR, Unless([("n", True)]), False), (EVEN, FOUR, Unless([("k", 1), ("n", 2)]), False),
                (EVEN, FOUR, Unless([]), False), (EVEN, FOUR, Follows(), False), (EVEN, FOUR, Unlike([("n", 2)]), False),
                (EVEN, free, Unless([("k", 1), ("n", 2)]), True), (EVEN, free, Unless([("n", 2), ("k", 1)]), False),
                (EVEN, free, Unless([("n", 2)]), False), (EVEN, free, Unless([("k", 0), ("n", 2)]), False),
                (FOUR, EVEN, Follows(), True), (FOUR, EVEN, Paper("follows"), False), (FOUR, EVEN, Alike(), False),
                (FOUR, EVEN, Always(), False), (EVEN, FOUR, Denial("unless", (("n", 2),)), False), (EVEN, EVEN, Follows(), True)):
            self.assertIs(shows_follows(one, other, value), expected)
        for one, other, value, expected in (
                (EVEN, FOUR, Unlike([("n", 2)]), True), (FOUR, EVEN, Unlike([("n", 2)]), True), (EVEN, FOUR, Unlike([("n", 4)]), False),
                (EVEN, FOUR, Unlike([("n", 1)]), False), (EVEN, FOUR, Unless([("n", 2)]), False), (EVEN, FOUR, Alike(), False),
                (EVEN, free, Unlike([("k", 0), ("n", 3)]), True), (EVEN, free, Unlike([("n", 3)]), False),
                (EVEN, EVEN, Alike(), True), (EVEN, EVEN, Follows(), False), (EVEN, plain_of(EVEN), Alike(), True),
                (EVEN, EVEN, Paper("alike"), False), (EVEN, ODD_ONES, Unlike([("n", False)]), False)):
            self.assertIs(shows_alike(one, other, value), expected)
        for value in ODD_VALUES:
            for shows in (shows_follows, shows_alike):
                self.assertIs(shows(EVEN, FOUR, value), False)
            self.assertIs(shows_follows(EVEN, FOUR, Unless(value)), False)
            self.assertIs(shows_alike(EVEN, FOUR, Unlike(value)), False)
            self.assertIs(shows_alike(EVEN, FOUR, Unlike([value])), False)
        self.assertIs(shows_follows(EVEN, FOUR, Told([])), False)


class WrongTest(unittest.TestCase):
    def test_wrong_ones(self):
        for value in BAD_CLAIMS:
            self.assertEqual(told(judged, value), ("BadClaim", "claim"))
            self.assertEqual(told(shows_judged, value, None), ("BadClaim", "claim"))
            for function in (follows, alike):
                self.assertEqual(told(function, value, None), ("BadClaim", "one"))
                self.assertEqual(told(function, ("yes",), value), ("BadClaim", "other"))
                self.assertEqual(told(function, other=value, one=value), ("BadClaim", "one"))
            for function in (shows_follows, shows_alike):
                self.assertEqual(told(function, value, None, None), ("BadClaim", "one"))
                self.assertEqual(told(function, ("yes",), value, Odd()), ("BadClaim", "other"))

    def test_what_is_passed_stays(self):
        one, other = lists(EVEN), lists(FOUR)
        judged(one)
        follows(one, other)
        alike(one, other)
        shows_follows(one, other, Unless([("n", 2)]))
        self.assertEqual((one, other), (lists(EVEN), lists(FOUR)))


if __name__ == "__main__":
    unittest.main()
