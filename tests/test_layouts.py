"""Layouts [6], and all right numbers as layouts."""

import unittest

from claimduel.claim_texts import claim_text
from claimduel.layouts import Layout, right_for
from claimduel.marks import marks_of, period_of
from reckoning import many_right, near_numbers, plain_so, right_rows, turning_points
from support import BAD_NAMES, BAD_NUMBERS, BAD_PLAIN, BAD_SETTINGS, ODD_VALUES, Odd, below, chance, from_to, lists, odd_but
from support import random_literal, random_plain, random_setting, random_tree, rests, told, zero

NO_ROWS = [
    (0, 5, 2), (5, 0, 1), (0, 4, 0), (0, 4, -2), (None, None, 1), (0, 4), (0, 4, 2, 1), (True, 4, 1), (0, True, 1),
    (0, 4, True), (0, 4, 2.0), (0.0, 4, 2), ("0", 4, 2), (0, None, None), None, "row", 7, Odd(), [Odd(), 1, 1], {},
    (0, Odd(), 1), (0, 4, Odd()), (None, "4", 2), (0, [4], 1),
]


def numbers_of(row, width=200):
    first, last, step = row
    if first is None:
        return {number for number in range(last, -width - 1, -step) if number <= width}
    return {number for number in range(first, width + 1, step) if last is None or number <= last}


def random_row(luck, reach=12):
    step, at = luck.randint(1, 6), luck.randint(-reach, reach)
    return luck.choice([(at, at + step * luck.randint(0, 5), step), (None, at, step), (at, None, step)])


class LayoutTest(unittest.TestCase):
    def test_which_lists_are_layouts(self):
        luck = chance(100)
        right = 0
        for _ in range(1500):
            rows = [random_row(luck) for _ in range(luck.randint(0, 4))]
            is_layout = sum(len(numbers_of(row)) for row in rows) == len(set().union(*map(numbers_of, rows)))
            right += is_layout and len(rows) > 1
            self.assertEqual(told(Layout, rows), None if is_layout else ("BadLayout", "rows"), rows)
            base = luck.choice((10 ** 40, -10 ** 59))
            far = [tuple(None if end is None else end + base for end in row[:2]) + row[2:] for row in rows]
            self.assertEqual(told(Layout, lists(tuple(far))), None if is_layout else ("BadLayout", "rows"), far)
        self.assertGreater(right, 100)

    def test_rows_that_share_numbers_far_away_alone(self):
        big = 10 ** 40
        for rows, is_layout in (
                ([(0, None, big), (None, 5, 1)], False), ([(6, None, big), (None, 5, 1)], True),
                ([(0, 6 * big, 6), (4, 4 * big, 4)], False), ([(0, 6 * big, 6), (3, None, 2)], True),
                ([(0, None, big), (1, None, big + 1)], False), ([(0, None, 2 * big), (1, None, 2 * (big + 1))], True),
                ([(0, 6 * (big + 1), big + 1), (7, 7 + big * 9, big)], True),
                ([(0, 7 * (big + 1), big + 1), (7, 7 + big * 7, big)], False),
                ([(None, -big, 3), (big, None, 3)], True), ([(big, big, 5), (0, None, 10)], False),
                ([(big + 1, big + 1, 5), (0, None, 10)], True), ([(big, big, 5), (big, big, 3)], False)):
            self.assertEqual(told(Layout, rows), None if is_layout else ("BadLayout", "rows"), rows)
            self.assertEqual(told(Layout, rows[::-1]), None if is_layout else ("BadLayout", "rows"), rows)

    def test_how_many_rows(self):
        many = [(3 * k, 3 * k, 1) for k in range(1001)]
        self.assertEqual(Layout(many[:1000]).many(), 1000)
        self.assertEqual(told(Layout, many), ("BadLayout", "rows"))
        self.assertEqual(Layout([]).rows, ())
        self.assertEqual(Layout(()).many(), 0)

    def test_order_of_rows(self):
        rows = [(7, 7, 9), (None, 2, 4), (0, 4, 4), [None, -3, 4], (5, None, 4)]
        layout = Layout(rows)
        self.assertEqual(layout.rows, ((None, -3, 4), (None, 2, 4), (0, 4, 4), (5, None, 4), (7, 7, 9)))
        self.assertEqual(Layout(rows=rows[::-1]), layout)
        self.assertEqual(rows[3], [None, -3, 4])

    def test_numbers(self):
        luck = chance(101)
        for _ in range(600):
            rows = []
            for row in [random_row(luck) for _ in range(luck.randint(0, 5))]:
                if told(Layout, rows + [row]) is None:
                    rows.append(row)
            layout, numbers = Layout(rows), set().union(*map(numbers_of, rows))
            for number in range(-60, 61):
                self.assertIs(layout.has(number), number in numbers)
            is_low, is_high = any(row[0] is None for row in rows), any(row[1] is None for row in rows)
            self.assertEqual(layout.many(), None if is_low or is_high else len(numbers))
            self.assertEqual(layout.least(), None if is_low or not rows else min(numbers))
            self.assertEqual(layout.greatest(), None if is_high or not rows else max(numbers))

    def test_same(self):
        luck = chance(102)
        for _ in range(400):
            rows = []
            for row in [random_row(luck) for _ in range(luck.randint(0, 4))]:
                if told(Layout, rows + [row]) is None:
                    rows.append(row)
            layout, base = Layout(rows), luck.choice((0, 10 ** 40))
            parted = []
            for first, last, step in rows:
                k = luck.randint(1, 4)
                if first is None:
                    parted += [(None, last - j * step, step * k) for j in range(k)]
                elif last is None:
                    parted += [(first + j * step, None, step * k) for j in range(k)]
                else:
                    parted += [(number, number, luck.randint(1, 9)) for number in range(first, last + 1, step)]
            other = Layout(parted)
            self.assertIs(layout.same(other), True)
            self.assertIs(other.same(layout), True)
            self.assertEqual(layout == other, layout.rows == other.rows)
            if parted:
                self.assertIs(layout.same(Layout(parted[1:])), False)
                self.assertIs(Layout(parted[1:]).same(layout), False)
            far, other = (Layout([tuple(None if end is None else end + base for end in row[:2]) + row[2:] for row in some])
                          for some in (rows, parted))
            self.assertIs(far.same(other), True)

    def test_same_of_whole_lines(self):
        whole = Layout([(None, -1, 1), (0, None, 1)])
        self.assertTrue(whole.same(Layout([(None, 10 ** 40, 1), (10 ** 40 + 1, None, 1)])))
        self.assertFalse(whole.same(Layout([(None, 10 ** 40, 1), (10 ** 40 + 2, None, 1)])))
        self.assertTrue(whole.same(Layout([(None, r, 6) for r in range(6)] + [(r + 6, None, 6) for r in range(6)])))
        self.assertTrue(Layout([(0, None, 2), (1, None, 6), (3, None, 6), (5, None, 6)]).same(Layout([(0, None, 1)])))
        self.assertFalse(Layout([(0, None, 2), (1, None, 6), (3, None, 6), (11, None, 6)]).same(Layout([(0, None, 1)])))
        self.assertTrue(Layout([(0, 10 ** 40, 5)]).same(Layout([(0, 10 ** 40, 10), (5, 10 ** 40 - 5, 10)])))

    def test_equal_ones(self):
        one = Layout([(0, 4, 2), (1, 3, 2)])
        self.assertEqual(one, Layout([[1, 3, 2], [0, 4, 2]]))
        self.assertFalse(one == Layout([(0, 4, 1)]))
        self.assertFalse(Layout([(3, 3, 1)]) == Layout([(3, 3, 2)]))
        self.assertTrue(Layout([(3, 3, 1)]).same(Layout([(3, 3, 2)])))
        for value in odd_but():
            if not isinstance(value, Odd):
                self.assertFalse(one == value)

    def test_wrong_ones(self):
        for row in NO_ROWS:
            self.assertEqual(told(Layout, [row]), ("BadLayout", "rows"), row if not isinstance(row, Odd) else None)
            self.assertEqual(told(Layout, rows=[(0, 4, 2), row]), ("BadLayout", "rows"))
        for value in odd_but(list, tuple):
            self.assertEqual(told(Layout, value), ("BadLayout", "rows"))
        layout = Layout([(0, 4, 2)])
        for value in BAD_NUMBERS:
            self.assertEqual(told(layout.has, value), ("BadNumber", "number"))
        for value in ODD_VALUES + [[(0, 4, 2)], ((0, 4, 2),)]:
            self.assertEqual(told(layout.same, value), ("BadLayout", "other"))


class RightForTest(unittest.TestCase):
    def check(self, claim, name, setting):
        layout = right_for(claim, name, setting)
        self.assertIsInstance(layout, Layout)
        for number in near_numbers(claim, name, setting):
            self.assertIs(layout.has(number), plain_so(claim, {**setting, name: number}), (claim_text(claim), setting))
        self.assertEqual(layout.many(), many_right(claim, name, setting), (claim_text(claim), setting))
        points, period = turning_points(claim, name, setting)
        right = [number for number, _ in right_rows(claim, name, setting)]
        is_low, is_high = (any(number < points[0] for number in right), any(number > points[-1] for number in right))
        self.assertEqual(layout.least(), None if is_low or not right else min(right))
        if is_high or not right:
            self.assertIsNone(layout.greatest())
        else:
            greatest = layout.greatest()
            self.assertTrue(greatest in right or layout.has(greatest) and greatest >= max(right))
        again = right_for(lists(claim), name, list({**setting, name: 5}.items()))
        self.assertEqual(again, layout)

    def test_against_trial(self):
        luck = chance(103)
        for k in range(500):
            claim = random_plain(luck, ("n", "x", "y"), k % 4, ms=(2, 3, 4, 6))
            self.check(claim, "x", random_setting(luck, ("n", "y")))

    def test_small_ones_at_their_bounds(self):
        luck = chance(104)
        for _ in range(60):
            literals = [random_literal(luck, "nkyx", ms=(2, 3, 4, 6, 12), factors=(-3, -2, -1, 1, 2, 3), must="x")
                        for _ in range(8)]
            self.check(random_tree(luck, literals), "x", random_setting(luck, ("n", "k", "y")))

    def test_sixty_of_them(self):
        luck = chance(105)
        for _ in range(3):
            literals = [random_literal(luck, "nx", ms=(2, 3), factors=(-3, -1, 1, 2), span=99, must="x") for _ in range(60)]
            claim = random_tree(luck, literals)
            if period_of(claim, "x") * (len(marks_of(claim, "x")) + 2) + len(marks_of(claim, "x")) <= 950:
                self.check(claim, "x", {"n": luck.randint(-10 ** 30, 10 ** 30)})

    def test_edges(self):
        whole = Layout([(None, -1, 1), (0, None, 1)])
        self.assertTrue(right_for(("yes",), "x", {}).same(whole))
        self.assertEqual(right_for(("no",), "x", ()).rows, ())
        self.assertTrue(right_for(below(0, n=1), "x", {"n": -1}).same(whole))
        self.assertEqual(right_for(below(0, n=1), "x", {"n": 0}).rows, ())
        self.assertTrue(right_for(rests(6, 1, x=4), "x", ()).same(Layout([])))
        self.assertTrue(right_for(rests(6, 2, x=4), "x", ()).same(Layout([(None, 1, 3), (4, None, 3)])))
        big = 10 ** 40
        self.assertTrue(right_for(from_to("x", -big, big), "x", {}).same(Layout([(-big, big - 1, 1)])))
        self.assertTrue(right_for(below(1, x=3), "x", {}).same(Layout([(None, -1, 1)])))
        self.assertTrue(right_for(below(1, x=-3), "x", {}).same(Layout([(1, None, 1)])))
        self.assertTrue(right_for(("not", zero(-8, x=4)), "x", {}).same(Layout([(None, 1, 1), (3, None, 1)])))
        self.assertEqual(right_for(zero(-7, x=4), "x", {}).rows, ())

    def test_when_there_are_too_many(self):
        odd_ones = ("or", *(rests(m, k, x=1) for m, k in ((4, 1), (3, 0), (5, 2), (7, 3))))
        self.check(odd_ones, "x", {})
        self.assertEqual(period_of(odd_ones, "x"), 420)
        # With 117 marks and the period 7 it is just 950; each stretch has other rests.
        marks = tuple(below(-1000 * k, x=1) for k in range(117))
        claim = ("or", *(("and", marks[k], ("not", marks[k - 1]), ("not", rests(7, k, x=1))) for k in range(1, 117)))
        self.assertEqual(period_of(claim, "x") * (len(marks_of(claim, "x")) + 2) + len(marks_of(claim, "x")), 950)
        layout = right_for(claim, "x", {})
        self.assertEqual(layout.many(), many_right(claim, "x", {}))
        luck = chance(106)
        for number in [luck.randint(-2000, 120000) for _ in range(300)]:
            self.assertIs(layout.has(number), plain_so(claim, {"x": number}))
        several = ("or", *(("and", below(-10 ** 9 * k, x=1), ("not", below(-10 ** 9 * (k - 1), x=1)),
                            *(("not", rests(13, j * j + k, x=1)) for j in range(13))) for k in range(1, 200)))
        error = told(right_for, several, "x", {})
        self.assertIn(error, (None, ("TooMany", "rows", 1000)))
        self.assertIn(told(right_for, rests(10 ** 50, 1, x=1), "x", {}), (None, ("TooMany", "rows", 1000)))
        primes = (2, 3, 5, 7, 11, 13, 17, 19, 23, 29, 31, 37, 41, 43)
        wide = ("and", *(("not", rests(m, 1, x=1)) for m in primes))
        self.assertEqual(told(right_for, wide, "x", {}), ("TooMany", "rows", 1000))

    def test_wrong_ones(self):
        for value in BAD_PLAIN:
            self.assertEqual(told(right_for, value, None, None), ("BadClaim", "plain"))
        for value in BAD_NAMES:
            self.assertEqual(told(right_for, ("yes",), value, None), ("BadName", "name"))
        for value in BAD_SETTINGS:
            self.assertEqual(told(right_for, ("yes",), "x", value), ("BadSetting", "setting"))
        claim = below(0, b=1, k=2, x=1, y=1)
        self.assertEqual(told(right_for, claim, "x", {}), ("NoName", "b"))
        self.assertEqual(told(right_for, claim, "b", {}), ("NoName", "k"))
        self.assertEqual(told(right_for, claim, "x", {"b": 1, "k": 1, "x": 1}), ("NoName", "y"))
        self.assertEqual(told(right_for, setting={"y": 1, "b": 0}, name="z", plain=claim), ("NoName", "k"))

    def test_what_is_passed_stays(self):
        claim, setting, rows = lists(below(3, x=2, y=1)), [["y", 3]], [[0, 4, 2]]
        right_for(claim, "x", setting)
        Layout(rows).same(Layout([(0, 4, 1)]))
        self.assertEqual((claim, setting, rows), (lists(below(3, x=2, y=1)), [["y", 3]], [[0, 4, 2]]))


if __name__ == "__main__":
    unittest.main()
