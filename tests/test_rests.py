"""Divisors, multiples, rests and roots, with the order of errors [2]."""

import math
import unittest

from claimduel.rests import both_rests, gcd_of, lcm_of, rest_of, root_of
from support import chance, odd_but, told

BIG = 10 ** 39 + 3
BIGGER = 10 ** 59 + 9


class DivisorsTest(unittest.TestCase):
    def test_against_trial(self):
        luck = chance(1)
        for _ in range(300):
            numbers = [luck.randint(1, 60) for _ in range(luck.randint(1, 4))]
            greatest = max(d for d in range(1, 61) if all(number % d == 0 for number in numbers))
            self.assertEqual(gcd_of(numbers), greatest)
            multiples = range(max(numbers), math.prod(numbers) + 1, max(numbers))
            least = next(m for m in multiples if all(m % number == 0 for number in numbers))
            self.assertEqual(lcm_of(numbers), least)

    def test_edges(self):
        self.assertEqual((gcd_of([1]), lcm_of((1,)), gcd_of([7]), lcm_of([7])), (1, 1, 7, 7))
        self.assertEqual(gcd_of([BIG * 12, BIG * 18, BIG * 30]), BIG * 6)
        self.assertEqual(lcm_of((BIG * 4, BIG * 6)), BIG * 12)
        self.assertEqual(lcm_of(list(range(1, 21))), 232792560)

    def test_wrong_ones(self):
        wrong = [[], (), [0], [1, 0], [-1], [2, -4], [True], [1, True], [1.0], ["1"], [[1]], 5, None, "12",
                 {1: 1}, {1}, range(1, 3), iter([1])]
        for function in (gcd_of, lcm_of):
            for value in wrong + odd_but(list, tuple, int):
                self.assertEqual(told(function, value), ("BadNumber", "numbers"))
                self.assertEqual(told(function, numbers=value), ("BadNumber", "numbers"))

    def test_what_is_passed_stays(self):
        numbers = [12, 18]
        gcd_of(numbers)
        lcm_of(numbers)
        self.assertEqual(numbers, [12, 18])


class RestsTest(unittest.TestCase):
    def test_rest_of(self):
        for number in range(-20, 21):
            for m in range(1, 9):
                rest = rest_of(number, m)
                self.assertIn(rest, range(m))
                self.assertEqual((number - rest) % m, 0)
        self.assertEqual(rest_of(-1, BIG), BIG - 1)
        self.assertEqual(rest_of(BIGGER, BIG), BIGGER % BIG)
        self.assertEqual(rest_of(m=5, number=-5), 0)

    def test_wrong_ones(self):
        for value in odd_but(int):
            self.assertEqual(told(rest_of, value, value), ("BadNumber", "number"))
            self.assertEqual(told(rest_of, 3, value), ("BadNumber", "m"))
        for m in (0, -1, True, False):
            self.assertEqual(told(rest_of, 3, m), ("BadNumber", "m"))
        self.assertEqual(told(rest_of, True, 0), ("BadNumber", "number"))


class RootsTest(unittest.TestCase):
    def test_against_trial(self):
        for factor in range(-7, 8):
            for number in range(-7, 8):
                for m in range(1, 13):
                    roots = [x for x in range(m) if (factor * x + number) % m == 0]
                    self.assertEqual(root_of(factor, number, m), roots[0] if roots else None, (factor, number, m))

    def test_edges(self):
        self.assertEqual([root_of(0, 0, 1), root_of(5, 3, 1), root_of(0, 8, 4), root_of(0, 0, 7)], [0, 0, 0, 0])
        self.assertEqual([root_of(0, 7, 4), root_of(0, -1, 2), root_of(4, 2, 8)], [None, None, None])
        self.assertEqual(root_of(factor=-1, number=5, m=100), 5)

    def test_big_numbers(self):
        x = root_of(BIG, 17, BIGGER)
        self.assertEqual((BIG * x + 17) % BIGGER, 0)
        self.assertIn(x, range(BIGGER // math.gcd(BIG, BIGGER)))
        self.assertEqual(root_of(2 * BIG, 2 * 17, 2 * BIGGER), x)
        self.assertIsNone(root_of(2 * BIG, 17, 2 * BIGGER))
        self.assertEqual(root_of(0, BIGGER * 5, BIGGER), 0)

    def test_wrong_ones(self):
        for value in odd_but(int):
            self.assertEqual(told(root_of, value, value, value), ("BadNumber", "factor"))
            self.assertEqual(told(root_of, 1, value, value), ("BadNumber", "number"))
            self.assertEqual(told(root_of, 1, 1, value), ("BadNumber", "m"))
        self.assertEqual(told(root_of, 1, 1, 0), ("BadNumber", "m"))
        self.assertEqual(told(root_of, 1, 1, -3), ("BadNumber", "m"))
        self.assertEqual(told(root_of, 1, True, 0), ("BadNumber", "number"))


class BothRestsTest(unittest.TestCase):
    def test_against_trial(self):
        for m in range(1, 9):
            for n in range(1, 9):
                multiple = m * n // math.gcd(m, n)
                for rest in range(m):
                    for other in range(n):
                        right = [x for x in range(multiple) if x % m == rest and x % n == other]
                        expected = (right[0], multiple) if right else None
                        self.assertEqual(both_rests((rest, m), [other, n]), expected)

    def test_big_numbers(self):
        rest, m = both_rests((5, BIG), (7, BIGGER))
        self.assertEqual((rest % BIG, rest % BIGGER, m), (5, 7, BIG * BIGGER // math.gcd(BIG, BIGGER)))
        self.assertIsNone(both_rests((1, 2 * BIG), (2, 2 * BIGGER)))
        self.assertEqual(both_rests((BIG - 1, BIG), (BIG - 1, BIG)), (BIG - 1, BIG))

    def test_wrong_ones(self):
        wrong = [(4, 4), (-1, 4), (0, 0), (0, -1), (0,), (0, 1, 1), (True, 2), (0, True), ("0", 1), 5, None, (),
                 {0: 1}, "01", [0.0, 1]]
        for value in wrong + odd_but(list, tuple):
            self.assertEqual(told(both_rests, value, value), ("BadNumber", "one"))
            self.assertEqual(told(both_rests, (0, 1), value), ("BadNumber", "other"))
            self.assertEqual(told(both_rests, other=value, one=[1, 2]), ("BadNumber", "other"))

    def test_what_is_passed_stays(self):
        one, other = [1, 4], [3, 6]
        found = both_rests(one, other)
        self.assertIsInstance(found, tuple)
        self.assertEqual((one, other), ([1, 4], [3, 6]))


if __name__ == "__main__":
    unittest.main()
