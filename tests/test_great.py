"""Claims of one name with great divisors, for which not all rests can be gone through."""

import time
import unittest

from claimduel.claims import both, either
from claimduel.marks import period_of
from claimduel.meaning import is_so
from claimduel.plain import holds
from claimduel.rows import number_by, rows_for
from claimduel.seeking import seek
from claimduel.struck import struck, struck_endless
from claimduel.thinning import settled_whole
from claimduel.verdicts import judged
from reckoning import plain_so, some_right
from support import below, chance, from_to, random_literal, random_tree, rests, zero

BIG = 10 ** 30


class GreatTest(unittest.TestCase):
    def test_seeking_as_trial(self):
        luck, found = chance(200), 0
        for k in range(600):
            literals = [random_literal(luck, "x", ms=(2, 3, 4, 6), factors=(-3, -2, 1, 2), span=12) for _ in range(2 + k % 7)]
            claim = random_tree(luck, literals)
            number = seek(settled_whole(claim), "x")
            self.assertIs(number is not None, some_right(claim, "x", {}))
            if number is not None:
                found += 1
                self.assertTrue(plain_so(claim, {"x": number}))
        self.assertGreater(found, 200)

    def test_seeking_among_many_bars(self):
        luck = chance(201)
        for k in range(150):
            bars = [("not", rests(luck.choice((2, 3, 4, 6)), luck.randint(0, 11), x=1)) for _ in range(4)]
            holes = [("not", zero(luck.randint(-6, 6), x=1)) for _ in range(luck.randint(0, 3))]
            ends = [[], [below(luck.randint(-6, 6), x=1)], [below(luck.randint(-6, 6), x=-1)],
                    [from_to("x", -luck.randint(0, 6), luck.randint(1, 6))], [rests(5, luck.randint(0, 4), x=2)]][k % 5]
            claim = both([*bars, *holes, *ends])
            number = seek(settled_whole(claim), "x")
            self.assertIs(number is not None, some_right(claim, "x", {}), claim)
            self.assertTrue(number is None or plain_so(claim, {"x": number}))

    def test_great_divisors(self):
        start = time.perf_counter()
        for claim, right in (
                (rests(BIG, 5, x=1), True), (both([rests(BIG, 5, x=1), from_to("x", 0, BIG)]), True),
                (both([rests(BIG, 5, x=1), from_to("x", 0, BIG - 5)]), False), (both([rests(BIG, 5, x=1), from_to("x", 0, BIG - 4)]), True),
                (both([rests(BIG, 5, x=1), below(10, x=1)]), True), (both([rests(BIG, 5, x=1), ("not", rests(BIG, 5, x=1))]), False),
                (both([rests(BIG, 0, x=1), rests(BIG - 1, 1, x=1)]), True), (both([rests(BIG, 0, x=1), rests(2 * BIG, 1, x=1)]), False),
                (both([rests(BIG, 0, x=1), ("not", rests(2 * BIG, 0, x=1)), ("not", rests(3 * BIG, BIG, x=1))]), True),
                (both([rests(BIG, 0, x=1), ("not", rests(2 * BIG, 0, x=1)), ("not", rests(2 * BIG, BIG, x=1))]), False),
                (both([zero(-BIG, x=1), rests(BIG, 0, x=1)]), True), (both([zero(-BIG, x=1), rests(BIG, 1, x=1)]), False),
                (either([rests(2 * BIG, 1, x=2), both([rests(BIG, 3, x=1), from_to("x", -3, -2)])]), True),
                (either([rests(2 * BIG, 1, x=2), both([rests(BIG, 3, x=1), from_to("x", -4, -3)])]), False)):
            self.assertGreater(period_of(claim, "x"), 10 ** 20)
            self.assertEqual(struck(claim, "x"), ("yes",) if right else ("no",), claim)
            self.assertIs(is_so(("some", "x", claim), {}), right)
            self.assertEqual(judged(claim).word, "sometimes" if right else "never")
            numbers = [number_by(row, {}) for row in rows_for(claim, "x")]
            self.assertIs(any(plain_so(claim, {"x": number}) for number in numbers), right)
        self.assertLess(time.perf_counter() - start, 2)

    def test_endless_ones(self):
        for claim, endless in (
                (rests(BIG, 5, x=1), True), (both([rests(BIG, 5, x=1), below(0, x=1)]), True),
                (both([rests(BIG, 5, x=1), from_to("x", -BIG ** 2, BIG ** 2)]), False), (rests(2 * BIG, 1, x=2), False)):
            self.assertEqual(struck_endless(claim, "x"), ("yes",) if endless else ("no",))

    def test_with_other_names(self):
        less = struck(both([rests(BIG, 5, x=1), zero(0, n=1, x=-1)]), "x")
        self.assertEqual([holds(less, {"n": n}) for n in (-5, 5, BIG - 5)], [True, False, True])
        less = struck(rests(6 * BIG, 3, n=2, x=4), "x")
        self.assertEqual([holds(less, {"n": n}) for n in (0, 1)], [False, False])
        less = struck(rests(6 * BIG, 2, n=1, x=4), "x")
        self.assertEqual([holds(less, {"n": n}) for n in range(5)], [False, False, True, False, False])


if __name__ == "__main__":
    unittest.main()
