"""Names struck out [7]: some number is right, endlessly many are, and what is so far to a side."""

import unittest

from claimduel.claim_texts import claim_text, read_claim
from claimduel.claims import both, contrary, free_in, is_plain
from claimduel.marks import period_of
from claimduel.plain import holds
from claimduel.rows import number_by, rows_for
from claimduel.struck import all_struck, far_at, struck, struck_endless
from reckoning import endless_right, plain_so, some_right
from support import BAD_NAMES, BAD_NUMBERS, BAD_PLAIN, ODD_VALUES, below, chance, from_to, lists, random_literal
from support import random_plain, random_setting, random_tree, rests, told, zero

CALLS = (struck, struck_endless)


def payable(total, coins):
    """Whether some coins, each as often as it may be, come to a total."""
    reached = {0}
    for number in range(1, total + 1):
        if any(number - coin in reached for coin in coins):
            reached.add(number)
    return total in reached


class StruckTest(unittest.TestCase):
    def check(self, claim, name, settings):
        less, endless = struck(claim, name), struck_endless(claim, name)
        for found in (less, endless):
            self.assertTrue(is_plain(found))
            self.assertLessEqual(set(free_in(found)), set(free_in(claim)) - {name})
        self.assertEqual(struck(lists(claim), name), less)
        self.assertEqual(struck_endless(lists(claim), name), endless)
        for setting in settings:
            where = (claim_text(claim), setting)
            self.assertIs(holds(less, setting), some_right(claim, name, setting), where)
            self.assertIs(holds(endless, setting), endless_right(claim, name, setting), where)
        return less

    def test_against_trial(self):
        luck = chance(110)
        for k in range(500):
            claim = random_plain(luck, ("n", "x", "y"), k % 4, ms=(2, 3, 4, 6))
            self.check(claim, "x", [random_setting(luck, ("n", "y")) for _ in range(6)])

    def test_one_level_at_its_bounds(self):
        luck = chance(111)
        for _ in range(80):
            literals = [random_literal(luck, "nkyx", ms=(2, 3, 4, 6, 12), factors=(-3, -2, -1, 1, 2, 3), must="x")
                        for _ in range(8)]
            claim = random_tree(luck, literals)
            self.check(claim, "x", [random_setting(luck, ("n", "k", "y")) for _ in range(4)])

    def test_divisions_alone(self):
        luck = chance(112)
        for _ in range(30):
            literals = [random_literal(luck, "x", kinds=("rests",), ms=(4, 12, 20, 35, 84, 105, 420), factors=(-3, 1, 2),
                                       span=420) for _ in range(10)]
            claim = random_tree(luck, literals)
            self.check(claim, "x", [{}])
            self.check(claim, "z", [{"x": number} for number in range(5)])

    def test_edges(self):
        yes, no = ("yes",), ("no",)
        for claim, some, endless in (
                (yes, yes, yes), (no, no, no), (zero(3, x=1), yes, no), (zero(3, x=2), no, no), (below(3, x=2), yes, yes),
                (("not", zero(3, x=1)), yes, yes), (rests(5, 3, x=1), yes, yes), (rests(6, 3, x=2), no, no),
                (from_to("x", 4, 4), no, no), (from_to("x", 4, 5), yes, no), (from_to("x", 10 ** 40, 10 ** 40 + 1), yes, no),
                (("and", below(0, x=1), rests(2, 0, x=1)), yes, yes), (("and", from_to("x", 1, 7), rests(7, 0, x=1)), no, no),
                (("and", from_to("x", 1, 8), rests(7, 0, x=1)), yes, no)):
            self.assertEqual((struck(claim, "x"), struck_endless(claim, "x")), (some, endless), claim_text(claim))
        self.assertEqual([holds(struck(below(3, x=2), "y"), {"x": x}) for x in (-3, -2, -1)], [True, True, False])
        self.assertEqual([holds(struck_endless(below(0, n=1), "x"), {"n": n}) for n in (-1, 0)], [True, False])

    def test_windows(self):
        # Of m numbers one after the other, one is divided; of fewer ones sometimes.
        for m, many in ((7, 7), (7, 6), (12, 12), (12, 1), (3, 0)):
            claim = both([("not", below(0, x=1, n=-1)), below(-many, x=1, n=-1), rests(m, 0, x=1)])
            less = struck(claim, "x")
            self.assertEqual(less == ("yes",), m == many)
            for n in range(-20, 20):
                self.assertIs(holds(less, {"n": n}), any((n + k) % m == 0 for k in range(many)))
            inside = both([("not", below(0, x=1, n=-1)), below(-many, x=1, n=-1), ("not", rests(m, 0, x=1))])
            self.assertIs(holds(struck(inside, "x"), {"n": 0}), many > 1)

    def test_the_contrary(self):
        luck = chance(113)
        for _ in range(60):
            claim = random_plain(luck, ("n", "x"), 2)
            all_right = contrary(struck(contrary(claim), "x"))
            for n in (-10 ** 40, *range(-6, 7), 10 ** 40):
                self.assertIs(holds(all_right, {"n": n}), not some_right(("not", claim), "x", {"n": n}))

    def test_rows_tell_the_same(self):
        luck = chance(114)
        for k in range(150):
            claim = random_plain(luck, ("n", "x", "y"), 1 + k % 3)
            less, rows = struck(claim, "x"), rows_for(claim, "x")
            for _ in range(8):
                setting = random_setting(luck, ("n", "y"))
                numbers = [number_by(row, setting) for row in rows]
                met = any(number is not None and plain_so(claim, {**setting, "x": number}) for number in numbers)
                self.assertIs(holds(less, setting), met, (claim_text(claim), setting))


class AllStruckTest(unittest.TestCase):
    def test_payings(self):
        luck = chance(115)
        for coins, factor in (((3, 5), -1), ((4, 6, 15), -1), ((15, 12, 10), -1), ((15,), 2), ((14, 15), 1), ((9, 5, 8), -1),
                              ((12, 15, 5), -7), ((1, 15, 15), 13)):
            names = ("a", "b", "c")[:len(coins)]
            sign = -1 if factor > 0 else 1
            paid = zero(0, n=factor, **{name: coin for name, coin in zip(names, coins)})
            claim = both([*(("not", below(0, **{name: 1})) for name in names), paid])
            for order in (names, names[::-1], luck.sample(names, len(names))):
                less = all_struck(claim, list(order))
                self.assertLessEqual(set(free_in(less)), {"n"})
                for n in range(-12, 60):
                    total = n * sign * abs(factor)
                    self.assertIs(holds(less, {"n": n}), total >= 0 and payable(total, coins), (coins, factor, n))
            one_by_one = claim
            for name in names:
                one_by_one = struck(one_by_one, name)
            self.assertEqual([holds(one_by_one, {"n": n}) for n in range(-9, 200)],
                             [holds(less, {"n": n}) for n in range(-9, 200)])

    def test_two_levels(self):
        luck = chance(116)
        for k in range(120):
            two = luck.choice("nxy")
            literals = [random_literal(luck, "nxy", kinds=("below", "below", "zero"), must="xy", two=two) for _ in range(3)]
            literals.append(random_literal(luck, "nxy", kinds=("below", "rests"), ms=(2, 3), must="x", two=two))
            claim = random_tree(luck, literals)
            ones = struck(claim, "y")
            twos, together = struck(ones, "x"), all_struck(claim, ("x", "y"))
            self.assertEqual(all_struck(lists(claim), ["x", "y"]), together)
            for n in (-40, -7, 0, 3, 10 ** 30):
                # What ones says is tested above; so x alone is tried here.
                expected = some_right(ones, "x", {"n": n})
                self.assertIs(holds(twos, {"n": n}), expected, (claim_text(claim), n))
                self.assertIs(holds(together, {"n": n}), expected, (claim_text(claim), n))
            for _ in range(5):
                setting = random_setting(luck, ("n", "x"))
                self.assertIs(holds(ones, setting), some_right(claim, "y", setting))

    def test_three_and_four_levels(self):
        luck = chance(117)
        for _ in range(60):
            names = luck.choice(("xyz", "wxyz"))
            literals = [random_literal(luck, "n" + names, kinds=("below", "zero"), must=names[0]) for _ in range(3)]
            claim = random_tree(luck, literals)
            found, again = all_struck(claim, list(names)), claim
            for name in names:
                again = struck(again, name)
            self.assertLessEqual(set(free_in(found)), {"n"})
            for n in (-10 ** 33, -5, 0, 6, 10 ** 33):
                self.assertIs(holds(found, {"n": n}), holds(again, {"n": n}))
        five = both([below(3, n=1, w=1, x=1, y=1, z=-1), below(-4, n=-1, w=1, x=-1, y=1, z=1), below(9, w=-1, x=1, y=-1, z=1),
                     below(1, n=1, w=-1, x=-1, y=-1, z=-1), below(0, n=-1, w=1, x=-1, y=-1, z=-1)])
        found, again = all_struck(five, list("wxyz")), five
        for name in "zxyw":
            again = struck(again, name)
        for n in (-10 ** 33, *range(-30, 31), 10 ** 33):
            self.assertIs(holds(found, {"n": n}), holds(again, {"n": n}))
        near = both([five, zero(0, w=1, x=1), from_to("x", 0, 3), from_to("y", 0, 2), from_to("z", 0, 2)])
        found = all_struck(near, list("wxyz"))
        for n in range(-25, 26):
            expected = any(plain_so(five, {"n": n, "w": -x, "x": x, "y": y, "z": z})
                           for x in range(3) for y in range(2) for z in range(2))
            self.assertIs(holds(found, {"n": n}), expected)

    def test_edges(self):
        claim = read_claim("( 1 x + 1 y + 0 = 0 and 3 | 1 n + 1 x + 0 )")
        self.assertEqual(all_struck(claim, []), all_struck(claim, ()))
        for n in range(-4, 5):
            self.assertIs(holds(all_struck(claim, []), {"n": n, "x": 4, "y": -4}), (n + 4) % 3 == 0)
        self.assertEqual(all_struck(claim, ["n", "x", "y"]), ("yes",))
        self.assertEqual(all_struck(claim, ["q", "x", "y"]), ("yes",))
        self.assertEqual(all_struck(("no",), ["x"]), ("no",))


class FarTest(unittest.TestCase):
    def test_against_far_numbers(self):
        luck = chance(118)
        for k in range(250):
            claim = random_plain(luck, ("n", "x", "y"), k % 4, ms=(2, 3, 4, 6))
            period = period_of(claim, "x")
            setting = random_setting(luck, ("n", "y"))
            for side, sign in (("left", -1), ("right", 1)):
                rest = luck.choice((luck.randint(0, period - 1), luck.randint(-99, 99), 10 ** 59 + luck.randint(0, 9)))
                far = far_at(claim, "x", side, rest)
                self.assertTrue(is_plain(far))
                self.assertLessEqual(set(free_in(far)), set(free_in(claim)) - {"x"})
                self.assertEqual(far_at(lists(claim), "x", side, rest), far)
                number = sign * 10 ** 50
                number += (rest - number) % period
                self.assertIs(holds(far, setting), plain_so(claim, {**setting, "x": number}), claim_text(claim))

    def test_facts(self):
        self.assertEqual([far_at(below(5, x=1), "x", side, 0) for side in ("left", "right")], [("yes",), ("no",)])
        self.assertEqual([far_at(below(5, x=-2), "x", side, 0) for side in ("left", "right")], [("no",), ("yes",)])
        self.assertEqual([far_at(zero(5, x=1), "x", side, 0) for side in ("left", "right")], [("no",), ("no",)])
        self.assertEqual([far_at(rests(6, 1, x=2), "x", "left", rest) for rest in (0, 1, 4)], [("no",)] * 3)
        self.assertEqual([far_at(rests(6, 2, x=2), "x", "left", rest) for rest in (-1, 1, 4, 2)],
                         [("yes",), ("no",), ("no",), ("yes",)])


class WrongTest(unittest.TestCase):
    def test_wrong_ones(self):
        for value in BAD_PLAIN:
            for call in CALLS:
                self.assertEqual(told(call, value, None), ("BadClaim", "plain"))
                self.assertEqual(told(call, name="x", plain=value), ("BadClaim", "plain"))
            self.assertEqual(told(all_struck, value, None), ("BadClaim", "plain"))
            self.assertEqual(told(far_at, value, None, None, None), ("BadClaim", "plain"))
        for value in BAD_NAMES:
            for call in CALLS:
                self.assertEqual(told(call, ("yes",), value), ("BadName", "name"))
            self.assertEqual(told(all_struck, ("yes",), ["x", value]), ("BadName", "names"))
            self.assertEqual(told(far_at, ("yes",), value, None, None), ("BadName", "name"))
        for value in (None, "x", {"x": 1}, ["x", "x"], ("a", "b", "a"), 5, {"x"}, [["x"]]):
            self.assertEqual(told(all_struck, ("yes",), value), ("BadName", "names"))
            self.assertEqual(told(all_struck, names=value, plain=("yes",)), ("BadName", "names"))
        for value in ODD_VALUES + ["Left", "up", ("left",), ["left"], b"left"]:
            self.assertEqual(told(far_at, ("yes",), "x", value, None), ("BadRow", "side"))
        for value in BAD_NUMBERS:
            self.assertEqual(told(far_at, ("yes",), "x", "left", value), ("BadNumber", "rest"))
        self.assertEqual(told(far_at, rest=None, side="right", name="x", plain=("yes",)), ("BadNumber", "rest"))

    def test_what_is_passed_stays(self):
        claim, names = lists(("and", below(3, x=2, y=1), rests(2, 0, y=1))), ["x", "y"]
        struck(claim, "x")
        struck_endless(claim, "x")
        all_struck(claim, names)
        far_at(claim, "y", "left", 1)
        self.assertEqual(claim, lists(("and", below(3, x=2, y=1), rests(2, 0, y=1))))
        self.assertEqual(names, ["x", "y"])


if __name__ == "__main__":
    unittest.main()
