"""How many [8]: pieces, each a guard and a form by a number, that count the right numbers."""

import unittest

from claimduel.claim_texts import claim_text, read_claim
from claimduel.claims import both, free_in
from claimduel.layouts import right_for
from claimduel.pieces import are_pieces, many_by, pieces_for
from claimduel.plain import holds
from reckoning import many_right, plain_so, worth_at
from support import BAD_NAMES, BAD_PLAIN, BAD_SETTINGS, ODD_VALUES, Odd, below, chance, from_to, lists, odd_but
from support import random_literal, random_plain, random_setting, random_tree, rests, told, zero

X = (0, (("x", 1),))
NO_PIECES = [
    (("yes",), 0, X), (("yes",), -1, X), (("yes",), True, X), (("yes",), 1.0, X), (("yes",), 1), (("yes",), 1, X, X),
    (("some", "x", ("yes",)), 1, X), (None, 1, X), (("yes",), 1, (0,)), (("yes",), 1, None), (("yes",), X, 1), "yes", None,
    (("and", ("yes",)), 1, X), Odd(), [Odd(), 1, X], (("yes",), Odd(), X), (("yes",), 1, Odd()), {}, (),
]


class ArePiecesTest(unittest.TestCase):
    def test_pieces(self):
        for value in ([], (), [(("yes",), 1, X)], ((("no",), 10 ** 59, (5, ())), (below(0, n=1), 2, X))):
            self.assertIs(are_pieces(value), True)
            self.assertIs(are_pieces(lists(value)), True)

    def test_no_pieces(self):
        for value in NO_PIECES:
            self.assertIs(are_pieces([value]), False)
            self.assertIs(are_pieces(((("yes",), 1, X), value)), False)
        for value in odd_but(list, tuple) + [[None], [[]], (("yes",), 1, X)]:
            self.assertIs(are_pieces(value), False)


class ManyByTest(unittest.TestCase):
    def test_the_first_guard_that_is_so_counts(self):
        pieces = [(below(0, n=1), 2, (0, (("n", -2),))), (below(-5, n=1), 1, (7, ())), (rests(2, 0, n=1), 2, X)]
        self.assertEqual([many_by(pieces, {"n": n, "x": 8}) for n in (-3, 0, 4, 5, 6)], [3, 7, 7, None, 4])
        self.assertEqual(many_by(lists(tuple(pieces)), [("n", 6), ("x", -8)]), -4)
        self.assertIsNone(many_by((), {}))

    def test_wrong_ones(self):
        for value in NO_PIECES:
            self.assertEqual(told(many_by, [value], None), ("BadClaim", "pieces"))
        for value in odd_but(list, tuple):
            self.assertEqual(told(many_by, value, None), ("BadClaim", "pieces"))
        for value in BAD_SETTINGS:
            self.assertEqual(told(many_by, [], value), ("BadSetting", "setting"))
        pieces = [(("yes",), 2, (1, (("y", 2),))), (below(0, c=1), 1, (0, (("b", 1),)))]
        self.assertEqual(told(many_by, pieces, {}), ("NoName", "b"))
        self.assertEqual(told(many_by, pieces, {"b": 1}), ("NoName", "c"))
        self.assertEqual(told(many_by, setting={"b": 1, "c": 1, "x": 1}, pieces=pieces), ("NoName", "y"))
        self.assertEqual(told(many_by, pieces, {"b": 1, "c": 1, "y": 1}), ("Misfit", "pieces"))
        self.assertEqual(many_by([(("no",), 2, (1, ())), (("yes",), 1, (1, ()))], {}), 1)


class PiecesForTest(unittest.TestCase):
    def check(self, claim, name, settings):
        pieces = pieces_for(claim, name)
        self.assertIsInstance(pieces, tuple)
        self.assertTrue(are_pieces(pieces))
        self.assertEqual(pieces_for(lists(claim), name), pieces)
        others = set(free_in(claim)) - {name}
        for guard, _, form in pieces:
            self.assertLessEqual({*free_in(guard), *dict(form[1])}, others)
        for setting in settings:
            many = many_right(claim, name, setting)
            so = [(d, form) for guard, d, form in pieces if plain_so(guard, setting)]
            self.assertEqual(len(so), 0 if many is None else 1, (claim_text(claim), setting))
            if so:
                self.assertEqual(worth_at(so[0][1], setting), so[0][0] * many, (claim_text(claim), setting))
            self.assertEqual(many_by(pieces, setting), many)
        return pieces

    def test_against_trial(self):
        luck = chance(120)
        for k in range(300):
            claim = random_plain(luck, ("n", "x", "y"), k % 3, ms=(2, 3, 4, 6))
            self.check(claim, "x", [random_setting(luck, ("n", "y")) for _ in range(5)])

    def test_small_ones_at_their_bounds(self):
        luck = chance(121)
        for k in range(120):
            factors = (-1, 1) if k % 2 else (-3, -2, 2, 3)
            literals = [random_literal(luck, "nyx", kinds=("below", "below", "zero"), factors=factors, must="x")
                        for _ in range(2)]
            if k % 2:
                literals.append(random_literal(luck, "nyx", kinds=("rests",), ms=(2, 3, 4), must="x"))
            claim = random_tree(luck, literals)
            self.check(claim, "x", [random_setting(luck, ("n", "y")) for _ in range(8)])

    def test_windows(self):
        for m in (1, 2, 3, 4, 7, 12):
            for factor in (-2, -1, 1, 2):
                for constant in (0, 1, 5):
                    window = both([("not", below(0, x=1, n=-factor)), below(-m, x=1, n=-factor)])
                    self.check(window, "x", [{"n": n} for n in (-5, 0, 10 ** 40)])
                    if m > 1:
                        claim = both([window, rests(m, constant, x=1)])
                        pieces = self.check(claim, "x", [{"n": n} for n in range(-13, 14)])
                        self.assertEqual({many_by(pieces, {"n": n}) for n in range(-30, 30)}, {1})
                        claim = both([window, rests(m, constant, x=1, k=1)])
                        self.check(claim, "x", [{"n": n, "k": k} for n in range(-3, 4) for k in (-5, 0, 7)])

    def test_rests_of_other_names(self):
        luck = chance(124)
        window = both([("not", below(0, n=-1, x=1)), below(-7, k=-1, x=1)])
        sums = [rests(3, 0, k=1, n=1, x=1), rests(3, 1, k=-1, n=1, x=1), rests(3, 2, n=1, x=2), rests(2, 1, k=1, n=1, x=1)]
        near = [{"n": n, "k": k} for n in range(-3, 3) for k in range(n - 6, n + 9)]
        for _ in range(25):
            parts = luck.sample(sums, 3) + [rests(3, luck.randint(0, 2), n=1), rests(2, 0, k=1)]
            claim = both([window, random_tree(luck, [("not", part) if luck.random() < 0.5 else part for part in parts])])
            self.check(claim, "x", near)
        # For some rests of n the division of x does not matter.
        claim = both([window, ("or", rests(3, 0, n=1), rests(4, 1, x=1))])
        self.check(claim, "x", [{"n": n, "k": k} for n in range(-4, 4) for k in range(-9, 9)])
        claim = both([window, ("or", both([rests(3, 0, n=1), rests(2, 1, x=1)]), rests(12, 5, k=1, n=2, x=1))])
        self.check(claim, "x", [{"n": n, "k": k} for n in range(-4, 4) for k in range(-9, 9)])

    def test_edges(self):
        for claim, many in (
                (("yes",), None), (("no",), 0), (zero(0, x=1), 1), (zero(1, x=2), 0), (below(0, x=1), None),
                (rests(3, 0, x=1), None), (rests(6, 1, x=2), 0), (from_to("x", 5, 5), 0), (from_to("x", 5, 6), 1),
                (from_to("x", -10 ** 40, 10 ** 40), 2 * 10 ** 40), (("not", zero(0, x=1)), None), (below(0, n=1), 0),
                (both([from_to("x", 0, 10 ** 40), rests(12, 5, x=1)]), (10 ** 40 - 8) // 12 + 1)):
            pieces = self.check(claim, "x", [{"n": 3}])
            self.assertEqual(many_by(pieces, {"n": 3}), many)
        self.assertIsNone(many_by(pieces_for(below(0, n=1), "x"), {"n": -1}))
        self.assertEqual(many_by(pieces_for(below(0, n=1), "q"), {"n": 1}), 0)

    def test_one_side_without_end(self):
        claim = read_claim("( not -1 n + 1 x + 0 < 0 or ( 3 | 1 x + 0 and 1 n + 0 < 0 and not 1 x + 0 = 0 ) )")
        self.check(claim, "x", [{"n": n} for n in (-2, 0, 5)])
        claim = read_claim("( ( -1 n + 1 x + 0 < 0 and 2 | 1 k + 1 x + 0 and 3 | 1 k + 0 ) or 1 n + -1 x + 0 = 0 )")
        self.check(claim, "x", [{"n": n, "k": k} for n in (-2, 5) for k in (0, 1, 2, 3)])

    def test_many_marks(self):
        luck = chance(122)
        for _ in range(12):
            literals = [random_literal(luck, "nx", ms=(2, 3), factors=(-2, -1, 1, 3), must="x") for _ in range(6)]
            self.check(random_tree(luck, literals), "x", [random_setting(luck, ("n",)) for _ in range(6)])
        sides = both([below(k, x=sign, **{name: factor}) for sign in (1, -1)
                      for k, (name, factor) in enumerate((("k", 1), ("n", -1), ("y", 2)))])
        self.check(sides, "x", [random_setting(luck, ("k", "n", "y")) for _ in range(30)])

    def test_parts_add_up(self):
        luck = chance(123)
        for _ in range(40):
            claim = both([from_to("x", -9, 9), random_plain(luck, ("n", "x"), 1)])
            more = random_plain(luck, ("n", "x"), 1)
            counts = [pieces_for(part, "x") for part in (claim, both([claim, more]), both([claim, ("not", more)]))]
            for n in (-4, 0, 3, 10 ** 40):
                whole, one, other = [many_by(pieces, {"n": n}) for pieces in counts]
                self.assertEqual(whole, one + other)
                self.assertEqual(whole, right_for(claim, "x", {"n": n}).many())

    def test_wrong_ones(self):
        for value in BAD_PLAIN:
            self.assertEqual(told(pieces_for, value, None), ("BadClaim", "plain"))
        for value in BAD_NAMES:
            self.assertEqual(told(pieces_for, ("yes",), value), ("BadName", "name"))
            self.assertEqual(told(pieces_for, name=value, plain=("yes",)), ("BadName", "name"))
        self.assertFalse(any(are_pieces([value]) for value in ODD_VALUES))

    def test_what_is_passed_stays(self):
        claim = lists(both([from_to("x", 0, 9), rests(2, 0, x=1, n=1)]))
        pieces, setting = lists(pieces_for(claim, "x")), [["n", 3]]
        kept = lists(pieces_for(claim, "x"))
        self.assertIs(holds(pieces[0][0], {"n": 1}) or True, True)
        many_by(pieces, setting)
        self.assertEqual(claim, lists(both([from_to("x", 0, 9), rests(2, 0, x=1, n=1)])))
        self.assertEqual((pieces, setting), (kept, [["n", 3]]))


if __name__ == "__main__":
    unittest.main()
