"""Settings found for claims by bounds and cases: what solving and finding tell, against trial."""

import time
import unittest
from itertools import product
from unittest import mock

from claimduel import settings
from claimduel.finding import Search, pruned
from claimduel.settings import right_setting, struck_setting
from claimduel.solving import solve
from claimduel.thinning import settled_whole
from reckoning import plain_so, worth_at
from support import below, chance, random_literal, random_tree, rests, zero


def boxed(luck, names, most):
    """Literals that let each name be near 0 only, and these ranges."""
    ranges, literals = {}, []
    for name in names:
        low = luck.randint(-most, 0)
        high = low + luck.randint(0, most)
        ranges[name] = range(low, high + 1)
        literals += [("not", below(-low, **{name: 1})), below(-high - 1, **{name: 1})]
    return ranges, literals


class FindingTest(unittest.TestCase):
    def check(self, claim, names, ranges=None):
        found = right_setting(settled_whole(claim), names)
        if found is not None:
            self.assertEqual([name for name, _ in found], sorted(names))
            self.assertTrue(plain_so(claim, dict(found)), (claim, found))
            self.assertIsNotNone(struck_setting(settled_whole(claim), names) if len(names) < 3 else 0)
        if ranges is not None:
            by_trial = any(plain_so(claim, dict(zip(ranges, numbers))) for numbers in product(*ranges.values()))
            self.assertEqual(found is not None, by_trial, claim)
        return found

    def test_in_boxes(self):
        luck = chance(270)
        many = {True: 0, False: 0}
        for _ in range(500):
            names = "xyz"[:luck.randint(1, 3)]
            ranges, literals = boxed(luck, names, 5)
            factors = luck.choice(((-1, 1), (-3, -2, 2, 3), (-7, 7, 5, -5, 4)))
            more = [random_literal(luck, names, ms=(2, 3, 5, 13, 20), factors=factors, span=12)
                    for _ in range(luck.randint(1, 5))]
            inner = ("and", *more) if len(more) > 1 and luck.random() < 0.6 else random_tree(luck, more)
            many[self.check(("and", *literals, inner), names, ranges) is None] += 1
        self.assertGreater(min(many.values()), 100)

    def test_without_ends(self):
        luck = chance(271)
        for _ in range(300):
            names = "wxyz"[:luck.randint(1, 4)]
            literals = [random_literal(luck, names, ms=(2, 3, 7), factors=(-5, -3, -1, 1, 2, 4))
                        for _ in range(luck.randint(2, 6))]
            self.check(random_tree(luck, literals), names)

    def test_by_hand(self):
        strip = ("and", below(0, x=-5, y=7), below(-2, x=5, y=-7))
        self.check(strip, "xy")
        # 5 x - 7 y is 1: so it is between; 6 x - 9 y never is 1 or 2.
        self.assertIsNone(self.check(("and", below(0, x=-6, y=9), below(-3, x=6, y=-9)), "xy"))
        self.assertIsNone(self.check(("and", rests(6, 1, x=2), zero(0, x=1, y=-1)), "xy"))
        self.assertIsNone(self.check(("and", zero(0, x=4, y=6, z=10), rests(2, 1, x=2, y=3, z=5)), "xyz") and None)
        self.assertIsNone(self.check(("and", ("not", rests(10 ** 9, 0, x=1)), zero(0, x=1, y=-10 ** 9)), "xy"))
        self.assertIsNotNone(self.check(("and", ("not", rests(10 ** 9, 0, x=1)), zero(0, x=1, y=-10 ** 8)), "xy"))
        self.assertEqual(right_setting(("yes",), ("x", "a")), (("a", 0), ("x", 0)))
        self.assertIsNone(right_setting(("no",), ("x",)))
        far = 10 ** 31
        self.check(("and", below(-far, x=3, y=-2), below(far, x=-3, y=2), ("not", zero(-far, x=3, y=-2)),
                    rests(4, 1, x=1, y=1)), "xy")

    def test_pruned(self):
        """What is left says the same wherever what stands around it is so."""
        luck = chance(275)
        less = 0
        for _ in range(150):
            literals = [random_literal(luck, "xyz", factors=(-2, -1, 1, 2)) for _ in range(8)]
            claim = settled_whole(random_tree(luck, literals[2:]))
            around = [part for part in map(settled_whole, literals[:2]) if part[0] not in ("yes", "no")]
            found = pruned(claim, around)
            less += found != claim
            for _ in range(60):
                setting = {name: luck.randint(-9, 9) for name in "xyz"}
                if all(plain_so(part, setting) for part in around):
                    self.assertEqual(plain_so(found, setting), plain_so(claim, setting), (claim, around, found))
        self.assertGreater(less, 20)

    def test_given_up(self):
        """Where too many cases would have to be looked at, the names are struck instead."""
        luck = chance(274)
        for _ in range(60):
            claim = settled_whole(random_tree(luck, [random_literal(luck, "xy", factors=(-2, -1, 1, 3))
                                                     for _ in range(4)]))
            search = Search(["x", "y"], 1)
            found = search.find(claim, 0)
            whole = right_setting(claim, ("x", "y"))
            if found is not None or not search.is_spent():
                self.assertEqual(found is None, whole is None)
            with mock.patch.object(settings, "MOST_CASES", 1):
                fewer = right_setting(claim, ("x", "y"))
            self.assertEqual(fewer is None, whole is None)
            self.assertTrue(fewer is None or plain_so(claim, dict(fewer)))

    def test_solving(self):
        luck = chance(272)
        for _ in range(300):
            names = "xyz"[:luck.randint(1, 3)]

            def form(factors):
                return (luck.randint(-9, 9), tuple((name, luck.choice(factors)) for name in names))

            belows = [form((-4, -1, 1, 2, 3)) for _ in range(luck.randint(0, 4))]
            zeros = [form((-6, 4, 9, 10, -15)) for _ in range(luck.randint(0, 2))]
            found = solve(belows, zeros, 0)
            near = product(range(-9, 10), repeat=len(names))
            if found is None:
                self.assertFalse(any(all(worth_at(other, dict(zip(names, numbers))) < 0 for other in belows)
                                     and all(worth_at(other, dict(zip(names, numbers))) == 0 for other in zeros)
                                     for numbers in near))
            else:
                table = {**{name: 0 for name in names}, **found}
                self.assertTrue(all(worth_at(other, table) < 0 for other in belows), (belows, zeros, found))
                self.assertTrue(all(worth_at(other, table) == 0 for other in zeros), (belows, zeros, found))

    def test_times(self):
        luck = chance(273)
        for _ in range(40):
            literals = [random_literal(luck, "wxyz", factors=(-3, -2, -1, 1, 2, 3), ms=(2, 3, 4), must="wx")
                        for _ in range(12)]
            start = time.perf_counter()
            self.check(random_tree(luck, literals), "wxyz")
            self.check(("and", *literals[:7]), "wxyz")
            self.assertLess(time.perf_counter() - start, 2)


if __name__ == "__main__":
    unittest.main()
