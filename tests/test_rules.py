"""Rules [11]: what is a rule, what it tells, sums, greatest numbers, growths, where two part; rules of claims."""

import unittest
from math import lcm

from claimduel.claims import both, contrary, free_in
from claimduel.meaning import plain_of
from claimduel.questions import many_for
from claimduel.rules import Rule, added, first_more, growth_of, most_of, parted_at, rule_for
from reckoning import many_right
from support import BAD_CLAIMS, BAD_NAMES, BAD_NUMBERS, ODD_VALUES, Odd, below, chance, from_to, lists, random_bound
from support import random_literal, random_tree, rests, told, zero

YES, NO = ("yes",), ("no",)
ZEROS = Rule([(None, None, [(0, 0, 5)])])
EVENS = Rule([(None, -1, [(0, 0, 1)]), (0, None, [(1, 2, 2), (1, 1, 2)])])
ENDLESS = Rule([(None, None, [None])])


def told_at(rows, number):
    """What stretches tell at an integer."""
    for first, last, entries in rows:
        if (first is None or first <= number) and (last is None or number <= last):
            entry = entries[number % len(entries)]
            return None if entry is None else (entry[0] * number + entry[1]) // entry[2]


def is_more(one, other):
    return other is not None and (one is None or one > other)


def random_entry(luck, first, last, rest, many, top=6):
    """An entry that is right at all integers of the stretch with this rest."""
    here = first if first is not None else last if last is not None else 0
    here += (rest - here) % many if first is not None or last is None else -((here - rest) % many)
    if luck.random() < 0.08:
        return None
    if first is not None and last is not None and here > last:
        return luck.choice((None, (1, 0, 7), (-3, -10 ** 20, 4)))
    slope = luck.choice((0, 1, 1, 2, -1, -2, 3))
    if first is None and last is None:
        slope = 0
    elif first is None:
        slope = -abs(slope)
    elif last is None:
        slope = abs(slope)
    d = luck.choice([d for d in (1, 2, 3, many) if slope * many % d == 0])
    end = here if last is None or first is None else last - (last - here) % many
    least = min(slope * here, slope * end)
    constant = -least + luck.randint(0, top) * d
    constant += -(slope * here + constant) % d
    often = luck.randint(1, 3)
    return (slope * often, constant * often, d * often)


def random_rule(luck, many=4, span=30, base=0, top=6):
    cuts = sorted({base + luck.randint(-span, span) for _ in range(luck.randint(0, many - 1))})
    rows = []
    for first, last in zip([None, *cuts], [*(cut - 1 for cut in cuts), None]):
        entries = luck.choice((1, 1, 2, 3, 4))
        rows.append((first, last, [random_entry(luck, first, last, rest, entries, top) for rest in range(entries)]))
    return Rule(rows)


class RuleTest(unittest.TestCase):
    def test_what_is_told(self):
        rows = [[None, -1, [(0, 0, 1)]], (0, 9, [None, [3, -3, 6]]), (10, None, [(1, 2, 2), (1, 1, 2)])]
        rule = Rule(rows)
        self.assertEqual(rule.rows, ((None, -1, ((0, 0, 1),)), (0, 9, (None, (3, -3, 6))),
                                     (10, None, ((1, 2, 2), (1, 1, 2)))))
        self.assertEqual([rule.at(n) for n in (-10 ** 40, -1, 0, 1, 2, 3, 9, 10, 11, 10 ** 40)],
                         [0, 0, None, 0, None, 1, 4, 6, 6, 5 * 10 ** 39 + 1])
        self.assertEqual(rule, Rule(lists(rule.rows)))
        self.assertNotEqual(rule, EVENS)
        self.assertNotEqual(ZEROS, Rule([(None, None, [(0, 0, 1)])]))
        self.assertNotEqual(rule, rule.rows)
        self.assertEqual(rows[0], [None, -1, [(0, 0, 1)]])
        for value in BAD_NUMBERS:
            self.assertEqual(told(rule.at, value), ("BadNumber", "number"))
        luck = chance(220)
        for _ in range(200):
            rule = random_rule(luck)
            for n in [*range(-40, 41), 10 ** 30 + 1, -10 ** 30]:
                self.assertEqual(rule.at(n), told_at(rule.rows, n))

    def is_refused(self, rows):
        self.assertEqual(told(Rule, rows), ("BadRule", "rows"), rows)

    def test_stretches_bent(self):
        zero_row = [(0, 0, 1)]
        for rows in ([], [(0, None, zero_row)], [(None, 0, zero_row)], [(None, 0, zero_row), (2, None, zero_row)],
                     [(None, 0, zero_row), (0, None, zero_row)],
                     [(None, 0, zero_row), (1, None, zero_row), (2, None, zero_row)],
                     [(None, None, zero_row), (None, None, zero_row)], [(None, 0, zero_row), (None, None, zero_row)],
                     [(None, 0, zero_row), (1, 0, zero_row), (1, None, zero_row)],
                     [(None, 3, zero_row), (4, 3, zero_row), (4, None, zero_row)],
                     [(1, None, zero_row), (None, 0, zero_row)], [(None, None, [])], [(None, None)],
                     [(None, None, zero_row, 1)],
                     [(None, None, (0, 0, 1))], [(None, None, [(0, 0)])], [(None, None, [(0, 0, 0)])],
                     [(None, None, [(0, 0, -1)])],
                     [(None, None, [(0, True, 1)])], [(None, None, [(False, 0, 1)])], [(None, None, [(0, 0, True)])],
                     [(None, None, [(0, 0, 1.0)])], [(None, True, zero_row), (2, None, zero_row)],
                     [(None, 0.0, zero_row), (1, None, zero_row)],
                     [(None, None, [0])], [(None, None, [(0, None, 1)])], [(None, None, [False])], None, 5, "x", {},
                     (None, None, zero_row),
                     [None], [()], Odd(), [Odd()], [(None, None, Odd())], [(None, None, [Odd()])],
                     [(Odd(), None, zero_row)],
                     [(None, None, [(0, 0, Odd())])], [(None, Odd(), zero_row)], [(0, 5, zero_row)],
                     [(-5, None, zero_row)]):
            self.is_refused(rows)
        for value in ODD_VALUES:
            self.is_refused(value)

    def test_entries_that_are_none(self):
        """Entries that are no integer, or below 0, somewhere in their stretch, near or very far."""
        far = 10 ** 40
        for entries in ([(1, 0, 1)], [(-1, 0, 1)], [(0, -1, 1)], [(0, 1, 2)], [(0, 0, 1), (1, 1, 1)],
                        [None, (0, -2, 2)]):
            self.is_refused([(None, None, entries)])
        for entries in ([(1, 0, 2)], [(-1, far, 1)], [(1, -1, 1)], [(0, -1, 1)], [(1, 0, 2), (1, 0, 2)],
                        [(1, 0, 3), (1, 0, 3), (1, 1, 3)]):
            self.is_refused([(None, -1, [None]), (0, None, entries)])
        for entries, is_right in (([(-1, far, 1)], True), ([(-1, far - 1, 1)], False), ([(1, 0, 1)], True),
                                  ([(2, -1, 1)], False),
                                  ([(1, 0, 2), (1, 1, 2)], True), ([(1, 0, 2), (1, 0, 2)], False),
                                  ([(-1, far, 2), (-1, far - 1, 2)], True),
                                  ([(-1, far, 2), (-1, far + 1, 2)], True), ([(-1, far, 2), (-1, far - 3, 2)], False)):
            rows = [(None, -1, [None]), (0, far, entries), (far + 1, None, [None])]
            if is_right:
                self.assertEqual(Rule(rows).at(far), told_at(rows, far))
            else:
                self.is_refused(rows)
        for entries, is_right in (([(-1, 0, 1)], True), ([(-1, -1, 1)], True), ([(-1, -2, 1)], False),
                                  ([(1, far, 1)], False), ([(0, 0, 7)], True),
                                  ([(-1, 1, 2), (-1, 1, 2)], False), ([(-1, 0, 2), (-1, 1, 2)], True)):
            rows = [(None, -1, entries), (0, None, [None])]
            if is_right:
                self.assertEqual(Rule(rows).at(-far), told_at(rows, -far))
            else:
                self.is_refused(rows)
        # Entries that stand for no integer of a short stretch are not asked for; for one alone only this one is.
        Rule([(None, 3, [None]), (4, 5, [(1, 0, 4), (5, 0, 25), (-1, 0, 1), (0, -7, 3)]), (6, None, [None])])
        self.is_refused([(None, 3, [None]), (4, 6, [(1, 0, 4), (5, 0, 25), (-1, 0, 1), (0, -7, 3)]), (7, None, [None])])

    def test_small_stretches_by_trial(self):
        luck = chance(221)
        many = {True: 0, False: 0}
        for _ in range(2000):
            first = luck.randint(-6, 6)
            last = first + luck.randint(0, 9)
            entries = [luck.choice((None, (luck.randint(-3, 3), luck.randint(-6, 18), luck.randint(1, 3))))
                       for _ in range(luck.randint(1, 3))]
            is_right = True
            for n in range(first, last + 1):
                entry = entries[n % len(entries)]
                worth = 0 if entry is None else entry[0] * n + entry[1]
                is_right = is_right and worth >= 0 and worth % (1 if entry is None else entry[2]) == 0
            rows = [(None, first - 1, [None]), (first, last, entries), (last + 1, None, [None])]
            self.assertEqual(told(Rule, rows), None if is_right else ("BadRule", "rows"), rows)
            many[is_right] += 1
        self.assertGreater(min(many.values()), 100)


class TwoRulesTest(unittest.TestCase):
    def check(self, one, other, points, end):
        """Compares with what is told at the points; from end on everything goes on as between end and 2 end."""
        summed = added(one, other)
        self.assertIsInstance(summed, Rule)
        for n in points:
            left, right = one.at(n), other.at(n)
            self.assertEqual(summed.at(n), None if left is None or right is None else left + right)
        self.assertEqual(summed, added(one, other))
        self.assertIsNone(parted_at(summed, added(other, one)))
        parted = parted_at(one, other)
        if parted is None:
            self.assertTrue(all(one.at(n) == other.at(n) for n in points))
        else:
            self.assertNotEqual(one.at(parted), other.at(parted))
        expected = None
        if all(is_more(one.at(n), other.at(n)) for n in range(end, 2 * end)):
            expected = max([n + 1 for n in range(end) if not is_more(one.at(n), other.at(n))], default=0)
        self.assertEqual(first_more(one, other), expected)

    def test_by_trial(self):
        luck = chance(222)
        found = {True: 0, False: 0}
        for _ in range(300):
            one, other = random_rule(luck), random_rule(luck, top=luck.choice((6, 40)))
            points = [*range(-60, 61), 10 ** 30, 10 ** 30 + 7, -10 ** 30, -10 ** 30 - 5]
            self.check(one, other, points, 400)
            found[first_more(one, other) is None] += 1
            twin = Rule([(first, last, [entry and tuple(3 * number for number in entry)
                                        for entry in (*entries, *entries)])
                         for first, last, entries in one.rows])
            self.assertIsNone(parted_at(one, twin))
            self.assertIsNone(first_more(one, twin))
        self.assertGreater(min(found.values()), 30)

    def test_sums_in_any_order(self):
        """Entries that stand for no integer of their stretch may tell fractions: no sum takes them on."""
        luck = chance(2221)
        nothing = Rule([(None, 0, [(0, 0, 3)] * 2), (1, None, [(0, 0, 1)])])
        for _ in range(200):
            one, other = random_rule(luck), random_rule(luck)
            sums = added(one, other), added(added(nothing, one), other), added(other, added(one, nothing))
            for summed in sums:
                self.assertIsNone(parted_at(summed, sums[0]))
                for n in range(-50, 50):
                    left, right = one.at(n), other.at(n)
                    self.assertEqual(summed.at(n), None if left is None or right is None else left + right)

    def test_parted_at_one_integer(self):
        luck = chance(223)
        for _ in range(100):
            rule = random_rule(luck)
            n = luck.choice((luck.randint(-40, 40), luck.choice((-1, 1)) * 10 ** 40 + luck.randint(-9, 9)))
            rows = []
            for first, last, entries in rule.rows:
                if (first is None or first <= n) and (last is None or n <= last):
                    more = rule.at(n)
                    rows += [(first, n - 1, entries)] if first is None or first < n else []
                    rows.append((n, n, [(0, 0 if more is None else more + 1, 1)]))
                    rows += [(n + 1, last, entries)] if last is None or n < last else []
                else:
                    rows.append((first, last, entries))
            self.assertEqual(parted_at(rule, Rule(rows)), n)
            self.assertEqual(parted_at(Rule(rows), rule), n)
            self.assertEqual(rule == Rule(rows), False)

    def test_far(self):
        far = 10 ** 30
        line = Rule([(None, -1, [(0, 0, 1)]), (0, None, [(1, 0, 1)])])
        step = Rule([(None, far, [(0, far, 1)]), (far + 1, None, [(0, 3, 1)])])
        self.assertEqual((first_more(line, step), first_more(step, line)), (far + 1, None))
        slow = Rule([(None, -1, [(0, 0, 1)]), (0, None, [(1, 2 * far, 2), (1, 2 * far - 1, 2)])])
        self.assertEqual((first_more(line, slow), first_more(slow, line)), (2 * far + 1, None))
        self.assertEqual(parted_at(line, Rule([(None, -1, [(0, 0, 1)]), (0, far, [(1, 0, 1)]),
                                               (far + 1, None, [(1, 0, 1)])])), None)
        self.assertEqual((first_more(ENDLESS, line), first_more(line, ENDLESS), first_more(ENDLESS, ENDLESS)),
                         (0, None, None))
        some = Rule([(None, far, [None, (0, 4, 1)]), (far + 1, None, [(0, 5, 1)])])
        self.assertEqual((first_more(ENDLESS, some), first_more(some, ZEROS), first_more(ENDLESS, ZEROS)),
                         (far + 1, 0, 0))
        self.assertEqual((parted_at(ENDLESS, ENDLESS), parted_at(some, ENDLESS) % 2, most_of(added(line, step))),
                         (None, 1, None))

    def test_some_rests_are_more(self):
        one = Rule([(None, -1, [(0, 0, 1)]), (0, None, [(1, 0, 2), (1, -1, 2)])])
        for k, expected in ((0, None), (1, 3)):
            other = Rule([(None, None, [(0, k, 1)])])
            self.assertEqual(first_more(one, other), {0: 2, 1: 4}[k])
        other = Rule([(None, -1, [(0, 0, 1)]), (0, None, [(1, 0, 2), (0, 0, 1)])])
        self.assertIsNone(first_more(one, other))
        self.assertIsNone(first_more(other, one))

    def test_most_and_growth(self):
        far = 10 ** 40
        for rows, most, growth in (
                ([(None, None, [(0, 7, 1), (0, 18, 2)])], 9, "none"),
                ([(None, None, [(0, 7, 1), None])], None, "endless"),
                ([(None, 5, [None]), (6, None, [(0, 1, 1)])], None, "none"),
                ([(None, 0, [(-1, 0, 1)]), (1, None, [(0, 3, 1)])], None, "none"),
                ([(None, 0, [(0, 4, 1)]), (1, far, [(1, 0, 1)]), (far + 1, None, [(0, 3, 1)])], far, "none"),
                ([(None, 0, [(0, 4, 1)]), (1, far, [(-1, far, 1)]), (far + 1, None, [(0, 3, 1)])], far - 1, "none"),
                ([(None, 0, [(0, 4, 1)]), (1, far, [(1, 0, 2), (0, 0, 1)]), (far + 1, None, [(0, 3, 1)])], far // 2,
                 "none"),
                ([(None, 0, [(0, 4, 1)]), (1, None, [(0, 0, 1), (1, 0, 1)])], None, "straight"),
                ([(None, 0, [(0, 4, 1)]), (1, None, [None, (1, 0, 1)])], None, "endless"),
                ([(None, 3, [(0, 1, 1)]), (4, 5, [None, (0, 5, 1), (0, 6, 1)]), (6, None, [(0, 2, 1)])], 6, "none")):
            rule = Rule(rows)
            self.assertEqual((most_of(rule), growth_of(rule)), (most, growth), rows)
        luck = chance(224)
        for _ in range(200):
            rule = random_rule(luck)
            points = range(-60, 61)
            values = [rule.at(n) for n in points]
            far_values = [rule.at(n) for n in (10 ** 30, 10 ** 30 + 1, 10 ** 30 + 2, 10 ** 30 + 3, -10 ** 30,
                                               -10 ** 30 - 1, -10 ** 30 - 2, -10 ** 30 - 3)]
            known = values + far_values
            expected = None if None in known or max(known) > 10 ** 20 else max(known)
            self.assertEqual(most_of(rule), expected)
            right = [rule.at(10 ** 30 + k) for k in range(12)]
            growth = "endless" if None in right else "straight" if max(right) > 10 ** 20 else "none"
            self.assertEqual(growth_of(rule), growth)

    def test_many_stretches_and_entries(self):
        many = Rule([(None, 0, [(0, 0, 1)])] + [(k, k, [(0, k, 1)])
                                                for k in range(1, 2000)] + [(2000, None, [(1, 0, 1)])])
        self.assertEqual((many.at(1234), growth_of(many), most_of(many)), (1234, "straight", None))
        line = Rule([(None, -1, [(0, 0, 1)]), (0, None, [(1, 0, 1)])])
        self.assertIsNone(parted_at(many, line))
        self.assertEqual((first_more(added(many, line), line), added(many, many).at(10 ** 30)), (1, 2 * 10 ** 30))
        long = Rule([(None, -1, [(0, 0, 1)]), (0, None, [(1, -rest, 1) for rest in range(420)])])
        other = Rule([(None, 10 ** 30, [(0, rest, 1) for rest in range(300)]), (10 ** 30 + 1, None, [None] * 7)])
        self.assertEqual((long.at(10 ** 30), added(long, other).at(10 ** 30), first_more(other, long)),
                         (10 ** 30 - 10 ** 30 % 420, 10 ** 30 - 10 ** 30 % 420 + 10 ** 30 % 300, 10 ** 30 + 1))

    def test_wrong(self):
        for value in [*ODD_VALUES, Odd(), ZEROS.rows]:
            for function in (most_of, growth_of):
                self.assertEqual(told(function, rule=value), ("BadRule", "rule"))
            for function in (added, first_more, parted_at):
                self.assertEqual(told(function, value, None), ("BadRule", "one"))
                self.assertEqual(told(function, other=value, one=ZEROS), ("BadRule", "other"))


class RuleForTest(unittest.TestCase):
    def check(self, claim, name="x", by="n", points=None):
        rule = rule_for(claim, name, by)
        self.assertEqual(rule, rule_for(lists(claim), name, by))
        plain = plain_of(claim)
        for n in points or [*range(-25, 26), 10 ** 40, 10 ** 40 + 1, 10 ** 40 + 5, -10 ** 40, -10 ** 40 - 7]:
            self.assertEqual(rule.at(n), many_right(plain, name, {by: n}), (claim, n, rule.rows))
        return rule

    def test_plain(self):
        luck = chance(225)
        for _ in range(150):
            literals = [random_literal(luck, "nx", ms=(2, 3, 4, 6), factors=(-3, -2, -1, 1, 2, 3), must="x")
                        for _ in range(luck.randint(1, 4))]
            self.check(random_tree(luck, literals))

    def test_finitely_many(self):
        luck = chance(226)
        for _ in range(100):
            literals = [random_literal(luck, "nx", ("below",), factors=factors, must="x")
                        for factors in ((1, 2, 3), (-1, -2, -3))]
            literals = [literal[1] if literal[0] == "not" else literal for literal in literals]
            literals += [random_literal(luck, "nx", ms=(2, 3, 4, 5), factors=(-2, -1, 1, 2)) for _ in range(2)]
            claim = ("and", *literals[:2], random_tree(luck, literals[2:]))
            rule = self.check(claim)
            self.assertIsNone(parted_at(rule, rule_for(plain_of(claim), "x", "n")))
            self.assertIsNone(parted_at(rule, rule_for(("not", ("not", ("or", claim, ("and", claim, literals[2])))),
                                                       "x", "n")))

    def test_far_constants(self):
        far = 10 ** 32 - 1
        claim = ("and", below(-far, n=1, x=2), below(0, x=-3, n=-1), ("not", rests(3, 1, n=1, x=1)))
        points = [*range(-9, 10)] + [at + k for at in (far, -2 * far, 3 * far, -3 * far, far // 2)
                                     for k in range(-7, 8)]
        self.check(claim, points=points)
        self.check(both([from_to("x", -far, far), below(0, n=-3, x=2)]), points=points)

    def test_one_level(self):
        luck = chance(227)
        for _ in range(60):
            literals = [random_literal(luck, "nxy", ms=(2, 3, 4), factors=(-2, -1, 1, 2), must="y")
                        for _ in range(luck.randint(2, 4))]
            literals += [("not", below(0, n=-1, x=1)), ("not", below(-9, x=-2, n=-1))]
            inner = random_tree(luck, literals[:-2])
            self.check(("and", *literals[-2:], random_bound(luck, inner, "y", ("some", "all"))))
            self.check(random_bound(luck, random_tree(luck, literals[:3]), "y"))

    def test_how_manys(self):
        claim = ("count", "below", (-2, (("n", 1),)), ((1, "y",
                                                        both([from_to("y", 0, 9), below(0, x=1, y=-2),
                                                              below(0, x=-1, n=-1, y=1)])),))
        self.check(claim)
        self.check(both([from_to("x", -5, 30), claim]))
        self.check(both([from_to("x", -5, 30), ("not", claim)]))

    def test_payings(self):
        for coins in ((3, 5), (15, 14), (4, 6), (1, 15), (7, 7)):
            pay = ("and", ("not", below(0, a=1)), ("some", "b",
                                                   ("and", ("not", below(0, b=1)),
                                                    zero(0, a=coins[0], b=coins[1], n=-1))))
            rule = rule_for(pay, "a", "n")
            for n in [*range(-5, 80), 10 ** 5]:
                self.assertEqual(rule.at(n), sum((n - coins[0] * a) % coins[1] == 0 for a in range(n // coins[0] + 1)))
            both_ways = rule.at(10 ** 40 * lcm(*coins))
            self.assertEqual(both_ways, 10 ** 40 + 1)
            self.assertEqual(growth_of(rule), "straight")
            turned = ("and", ("not", below(0, b=1)), ("some", "a",
                                                      ("and", ("not", below(0, a=1)),
                                                       zero(0, a=-coins[0], b=-coins[1], n=1))))
            # Each way to pay n is told by its a, and by its b as well.
            self.assertIsNone(parted_at(rule, rule_for(turned, "b", "n")))
            self.assertEqual([rule_for(pay, "n", "a").at(a) for a in (-1, 0, 10 ** 30)], [0, None, None])

    def test_cuts_and_their_sides(self):
        """How many on both sides of a cut, added, are how many in all."""
        luck = chance(228)
        for _ in range(60):
            inner = ("and", below(0, n=-2, x=1), below(-9, n=-1, x=-1), random_literal(luck, "nx", must="x", ms=(2, 3)))
            cut = random_literal(luck, "nx", ms=(2, 3), must="x")
            whole = rule_for(inner, "x", "n")
            sides = added(rule_for(both([inner, cut]), "x", "n"), rule_for(both([inner, contrary(cut)]), "x", "n"))
            self.assertIsNone(parted_at(whole, sides))
            more = rule_for(both([inner, cut]), "x", "n")
            self.assertIsNone(first_more(more, whole))

    def test_names_that_are_not_free(self):
        self.check(YES)
        self.check(NO)
        self.check(zero(0, x=1))
        self.check(below(3, n=1))
        self.check(from_to("x", -3, 10 ** 40))
        self.check(("or", rests(5, 1, n=2), from_to("x", 0, 4)))
        self.assertEqual([rule_for(NO, "x", "n").at(n) for n in (-1, 0, 10 ** 40)], [0, 0, 0])
        self.assertEqual(rule_for(("some", "n", zero(0, n=1, x=2)), "x", "n").at(0), None)

    def test_many_for(self):
        luck = chance(229)
        for _ in range(30):
            claim = random_bound(luck, random_tree(luck, [random_literal(luck, "nxy", must="y") for _ in range(3)]),
                                 "y", ("some", "all"))
            claim = both([from_to("x", -9, luck.randint(0, 9)), claim])
            rule = rule_for(claim, "x", "n")
            for n in (-8, 0, 3, 10 ** 30):
                self.assertEqual(rule.at(n), many_for(claim, "x", {"n": n}))

    def test_wrong(self):
        three = zero(0, x=1, y=1, z=1)
        for value in BAD_CLAIMS:
            self.assertEqual(told(rule_for, value, None, None), ("BadClaim", "claim"))
        for value in BAD_NAMES:
            self.assertEqual(told(rule_for, three, value, None), ("BadName", "name"))
            self.assertEqual(told(rule_for, three, "x", value), ("BadName", "by"))
        self.assertEqual(told(rule_for, by="x", name="x", claim=three), ("Misfit", "by"))
        self.assertEqual(told(rule_for, three, "x", "y"), ("Misfit", "claim"))
        self.assertEqual(told(rule_for, below(0, z=1), "x", "y"), ("Misfit", "claim"))
        self.assertIsNone(told(rule_for, ("some", "z", three), "x", "y"))
        self.assertEqual(free_in(three), ("x", "y", "z"))


if __name__ == "__main__":
    unittest.main()
