"""Answers come in a short time for small claims [2] [5]: each kind at its bounds, with much room.

Mostly a call takes thousandths of a second; what is asked here is that none takes seconds.
"""

import time
import unittest

from claimduel.books import Book, book_for, written
from claimduel.check_books import shows_book
from claimduel.claims import both, contrary, free_in
from claimduel.counted import counted
from claimduel.duels import Duel
from claimduel.layouts import Layout, right_for
from claimduel.meaning import is_so, plain_of
from claimduel.moves import best, wins
from claimduel.pieces import pieces_for
from claimduel.questions import all_for, between, many_for, told_by, without
from claimduel.rows import rows_for
from claimduel.rules import Rule, added, first_more, most_of, parted_at, rule_for
from claimduel.struck import all_struck, struck, struck_endless
from claimduel.verdicts import alike, follows, judged
from support import below, chance, from_to, random_bound, random_literal, random_tree, rests, zero

MOST = 2.0


class TimesTest(unittest.TestCase):
    def timed(self, function, *args):
        start = time.perf_counter()
        value = function(*args)
        self.assertLess(time.perf_counter() - start, MOST, (function.__name__, args))
        return value

    def ask_all(self, claim):
        plain = self.timed(plain_of, claim)
        self.timed(is_so, claim, {name: 10 ** 40 for name in free_in(claim)})
        return plain

    def test_one_level(self):
        luck = chance(190)
        for k in range(60):
            literals = [random_literal(luck, "klnyx", ms=(2, 3, 4, 6, 12), factors=(-3, 3, 2), span=10 ** 32 - 1,
                                       must="x")
                        for _ in range(8)]
            inner = ("and", *literals) if k % 4 == 0 else random_tree(luck, literals)
            for label in ("some", "all", "endless"):
                self.ask_all((label, "x", inner))
            for function in (struck, struck_endless, rows_for):
                self.timed(function, inner, "x")

    def test_one_level_by_hand(self):
        sides = [below(1, n=1, x=3), below(2, k=1, x=3), below(3, x=3, y=1), below(5, k=1, n=2, x=-3),
                 below(5, l=2, x=-3),
                 below(7, n=1, x=-3, y=-2)]
        both_ways = ("and", *sides, rests(12, 1, n=1, x=1), rests(4, 0, l=1, x=1))
        clauses = ("and", ("or", sides[0], sides[3]), ("or", sides[1], sides[4]),
                   ("or", rests(12, 1, n=1, x=1), sides[5]),
                   ("or", rests(4, 0, l=1, x=1), sides[2]))
        for inner in (both_ways, clauses, contrary(clauses), contrary(both_ways)):
            for label in ("some", "all", "endless"):
                self.ask_all((label, "x", inner))
            self.timed(struck, inner, "x")

    def test_one_name(self):
        luck = chance(191)
        for _ in range(30):
            literals = [random_literal(luck, "x", ms=(2, 3, 4, 6, 12), factors=(-3, 3, 2), span=10 ** 32 - 1)
                        for _ in range(8)]
            claim = random_tree(luck, literals)
            self.timed(judged, claim)
            self.timed(pieces_for, claim, "x")
            self.timed(alike, claim, self.timed(plain_of, claim))

    def test_divisions_alone(self):
        luck = chance(192)
        for _ in range(30):
            literals = [random_literal(luck, "x", kinds=("rests",), ms=(4, 12, 20, 35, 84, 105, 420),
                                       factors=(-3, 1, 2),
                                       span=420) for _ in range(12)]
            claim = random_tree(luck, literals)
            for function in (struck, struck_endless, rows_for, pieces_for):
                self.timed(function, claim, "x")
            self.timed(right_for, claim, "x", {})
            self.timed(judged, claim)
            for label in ("some", "all", "endless"):
                self.ask_all((label, "x", claim))

    def test_two_levels(self):
        luck = chance(193)
        for _ in range(150):
            two = luck.choice("klnxy")
            literals = [random_literal(luck, "klnxy", kinds=("below", "below", "zero"), must="klnxy", two=two)
                        for _ in range(3)]
            literals.append(random_literal(luck, "klnxy", kinds=("rests",), ms=(3,), must="klnxy", two=two))
            inner = random_tree(luck, literals)
            self.ask_all(random_bound(luck, inner, "yx", ("some", "all", "endless")))
            self.timed(all_struck, inner, ["x", "y"])
            self.timed(struck, self.timed(struck, inner, "y"), "x")
            self.timed(without, inner, ["x", "y"])

    def test_three_and_four_levels(self):
        luck = chance(194)
        for k in range(150):
            names = luck.choice(("xyz", "wxyz"))
            literals = [random_literal(luck, "n" + names, kinds=("below", "zero"), must=names) for _ in range(3)]
            self.ask_all(random_bound(luck, random_tree(luck, literals), names, ("some", "all", "endless")))
            five = ("and", *(random_literal(luck, "n" + names, kinds=("below",), must=names) for _ in range(5)))
            self.ask_all(random_bound(luck, five, names, ("some",)))
            self.timed(all_struck, five, list(names))

    def test_payings(self):
        for coins in ((15, 12, 10), (4, 6, 15), (7, 13, 4), (9, 14, 15), (15, 15, 15)):
            claim = zero(0, n=-1, **dict(zip("abc", coins)))
            for name in "abc":
                claim = ("some", name, both([("not", below(0, **{name: 1})), claim]))
            lacks = both([("not", below(0, n=1)), contrary(claim)])
            self.ask_all(claim)
            self.timed(judged, claim)
            for label in ("some", "all", "endless"):
                self.ask_all((label, "n", lacks))
            self.timed(all_for, lacks, "n", {})
            self.timed(many_for, lacks, "n", {})
            self.ask_all(("count", "below", (-9, ()), ((1, "n", lacks),)))

    def test_how_manys(self):
        four = both([below(0, k=1, n=-2, x=1), below(0, k=3, n=1, x=-1), rests(4, 1, k=-1, n=1, x=1)])
        three = both([below(0, k=1, n=-2, x=1), below(0, k=3, n=1, x=-1), rests(3, 1, k=-1, n=1, x=1)])
        thirds = both([below(0, k=1, n=-2, x=3), below(0, k=3, n=1, x=-2)])
        week = both([below(0, n=-2, x=1), below(-30, n=2, x=-1), rests(12, 1, k=1, n=3, x=1)])
        for kind in ("below", "zero"):
            for inner in (four, three, thirds, week):
                rows = [(2, "x", inner)]
                self.timed(counted, kind, (-3, (("n", 1),)), rows)
                self.timed(pieces_for, inner, "x")
                self.ask_all(("count", kind, (-3, (("n", 1),)), tuple(rows)))
            for inner in (three, thirds, week):
                for label in ("some", "all", "endless"):
                    self.ask_all((label, "n", ("count", kind, (-3, (("n", 1),)), ((2, "x", inner),))))
            two = ((1, "x", both([below(0, n=-1, x=1), below(0, k=1, x=-1)])),
                   (-2, "y", both([below(0, l=-1, y=1), below(0, k=1, n=1, y=-1)])))
            self.ask_all(("count", kind, (0, (("n", 1),)), two))
            for inner in (thirds, both([below(0, n=1, x=1), below(0, n=2, x=-1, k=1)])):
                within = ("count", kind, (-3, (("n", 2),)), ((-1, "x", inner),))
                self.ask_all(("count", "below", (-2, ()), ((1, "n", both([within, below(0, k=1, n=1)])),)))

    def test_two_claims(self):
        luck = chance(195)
        for _ in range(60):
            one = random_tree(luck, [random_literal(luck, "kn", ms=(3,), must="kn", two="k") for _ in range(2)])
            other = random_tree(luck, [random_literal(luck, "kn", kinds=("below", "zero"), must="kn", two="k")
                                       for _ in range(2)])
            self.timed(alike, one, other)
            if self.timed(follows, one, both([one, other])):
                self.timed(between, one, both([one, other]))
            self.timed(between, both([one, other]), other)
            three = [random_literal(luck, "nx", kinds=("below", "zero"), must="nx") for _ in range(3)]
            self.timed(told_by, random_tree(luck, three), "x")

    def test_layouts(self):
        rows = [(None, rest - 500, 500) for rest in range(500)] + [(rest, None, 500) for rest in range(500)]
        layout = self.timed(Layout, rows)
        self.assertTrue(self.timed(layout.same, Layout([(None, -1, 1), (0, None, 1)])))
        self.assertTrue(self.timed(Layout([(None, -1, 1), (0, None, 1)]).same, layout))
        rows = [(1000 * k, 1000 * k + 7 * (k + 3), k + 3) for k in range(100)]
        self.assertFalse(self.timed(self.timed(Layout, rows).same, Layout(rows[1:])))
        self.assertEqual(self.timed(pieces_for, from_to("x", -10 ** 59, 10 ** 59), "x"),
                         ((("yes",), 1, (2 * 10 ** 59, ())),))

    def play_out(self, claim, setting):
        """Best moves of both hands, to the end."""
        duel = Duel(claim, setting)
        hand = self.timed(wins, duel)
        while duel.kind != "over":
            duel.move(self.timed(best, duel))
            self.assertEqual(self.timed(wins, duel), hand)

    def test_duels(self):
        luck = chance(196)
        for k in range(40):
            literals = [random_literal(luck, "klnyx", ms=(2, 3, 4, 6, 12), factors=(-3, 3, 2), span=10 ** 32 - 1,
                                       must="x")
                        for _ in range(8)]
            claim = random_bound(luck, random_tree(luck, literals), "x", ("some", "all", "endless"))
            self.play_out(claim, {name: luck.randint(-9, 9) * 10 ** 31 for name in free_in(claim)})
            literals = [random_literal(luck, "n" + "wxyz", kinds=("below", "zero"), must="wxyz") for _ in range(3)]
            claim = random_bound(luck, random_tree(luck, literals), "wxyz", ("some", "all", "endless"))
            self.play_out(claim, {name: 10 ** 40 for name in free_in(claim)})
        lay = ("count", "zero", (-420, ()), ((1, "x", both([from_to("x", 0, 10 ** 30), rests(420, 7, x=1)])),))
        self.play_out(lay, {})

    def test_books(self):
        luck = chance(197)
        for k in range(30):
            literals = [random_literal(luck, "klnyx", ms=(2, 3, 4, 6, 12), factors=(-3, 3, 2), span=10 ** 32 - 1,
                                       must="x")
                        for _ in range(8)]
            claim = random_bound(luck, random_tree(luck, literals), "x", ("some", "all"))
            setting = {name: luck.randint(-9, 9) * 10 ** 31 for name in free_in(claim)}
            for hand in (0, 1):
                book = self.timed(book_for, claim, hand)
                self.assertLessEqual(sum(len(rows) for _, rows in book.rows), 200)
                self.timed(shows_book, claim, setting, book)
                self.timed(is_so, self.timed(written, claim, book), setting)
        rows = [("left", k, 60 + k, ((1, (0, (("n", 1),))), (2, (k, (("n", -1),))))) for k in range(12)]
        pair = ("all", "n", ("some", "x", ("and", below(-9, n=1, x=-2), below(0, n=1, x=1))))
        self.timed(shows_book, pair, {}, Book(0, [((0,), rows)]))

    def test_rules(self):
        luck = chance(198)
        for k in range(60):
            factors = luck.choice(((-3, -2, -1, 1, 2, 3), (-5, -4, 3, 5), (-3, 2, 4)))
            literals = [random_literal(luck, "nx", ms=(3, 4, 5, 12), factors=factors, span=10 ** 32 - 1, must="nx")
                        for _ in range(4)]
            self.timed(rule_for, random_tree(luck, literals), "x", "n")
            literals = [random_literal(luck, "nxy", kinds=("below",), factors=(-3, -2, 1, 3), must="nxy")
                        for _ in range(3)]
            literals.append(random_literal(luck, "nxy", kinds=("rests",), ms=(5, 12), factors=(-3, 1, 2), must="nxy"))
            self.timed(rule_for, ("some", "y", ("and", *literals)), "x", "n")
        for coins in ((15, 14), (13, 11), (15, 4)):
            pay = both([("not", below(0, b=1)), zero(-10 ** 31, a=coins[0], b=coins[1], n=-1)])
            for claim in (both([("not", below(0, a=1)), ("some", "b", pay)]), ("some", "b", pay)):
                rule = self.timed(rule_for, claim, "a", "n")
                self.timed(first_more, rule, self.timed(added, rule, rule))
                self.timed(parted_at, rule, self.timed(rule_for, claim, "n", "a"))
        rows = [(None, 0, [(0, 0, 1)])] + [(k * 10 ** 29, (k + 1) * 10 ** 29 - 1, [(0, k, 1)] * 60)
                                           for k in range(1, 900)]
        rows[1] = (1, 2 * 10 ** 29 - 1, [(0, 1, 1)] * 60)
        long = self.timed(Rule, rows + [(9 * 10 ** 31, None, [(60, 0, 60)] * 420)])
        for function in (added, first_more, parted_at):
            self.timed(function, long, long)
        self.timed(most_of, long)


if __name__ == "__main__":
    unittest.main()
