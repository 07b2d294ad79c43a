"""Moves [10]: who can win at each moment, and by which moves."""

import unittest

from claimduel.claims import both, contrary, free_in, put_in
from claimduel.duels import Duel
from claimduel.layouts import Layout
from claimduel.meaning import is_so
from claimduel.moves import best, wins
from claimduel.questions import all_for
from reckoning import plain_so, so_by_trial
from support import ODD_VALUES, Odd, below, chance, from_to, random_bound, random_literal, random_tree, rests, told, zero

YES, NO = ("yes",), ("no",)


def layout(*numbers):
    return Layout([(number, number, 1) for number in numbers])


def stand(duel):
    return (duel.claim, duel.setting, duel.keeper, duel.place, duel.bound, duel.laid, duel.kind, duel.turn, duel.winner,
            duel.moves)


def drawn_layout(luck, right):
    """A finite layout: the right one, one number more or less, or any."""
    if right.many() is None or luck.random() < 0.3:
        return layout(*sorted(luck.sample(range(-9, 10), luck.randint(0, 4))))
    if luck.random() < 0.4:
        return right
    if luck.random() < 0.5 and right.many():
        first, last, step = right.rows[0]
        return Layout(list(right.rows[1:]) + ([(first + step, last, step)] if first < last else []))
    start = luck.randint(-9, 9)
    more = next(number for number in [*range(start, 10 ** 3), 10 ** 50] if not right.has(number))
    return Layout(list(right.rows) + [(more, more, 1)])


def drawn_move(luck, duel):
    """Any move that is due."""
    if duel.kind == "part":
        return ("part", luck.randrange(len(duel.claim) - 1))
    if duel.kind == "name":
        return ("name", luck.choice((luck.randint(-6, 6), luck.randint(-40, 40),
                                     luck.choice((-1, 1)) * 10 ** luck.randint(3, 40))))
    if duel.kind == "lay":
        return ("lay", [drawn_layout(luck, all_for(part, name, duel.setting)) for _, name, part in duel.claim[3]])
    if luck.random() < 0.3:
        return ("take",)
    return ("doubt", luck.randrange(len(duel.claim[3])), luck.choice((luck.randint(-9, 9), 10 ** 30)))


def stubborn_move(_, duel):
    """The same again and again: the first part, 0, nothing laid, the first layout doubted at 0."""
    return {"part": ("part", 0), "name": ("name", 0), "doubt": ("doubt", 0, 0)}.get(
        duel.kind, ("lay", [layout() for _ in duel.claim[-1]] if duel.kind == "lay" else None))


def great_move(luck, duel):
    if duel.kind == "name":
        return ("name", luck.choice((-1, 1)) * luck.randint(10 ** 39, 10 ** 40))
    return drawn_move(luck, duel)


def best_move(_, duel):
    return best(duel)


PLAYERS = (drawn_move, stubborn_move, great_move, best_move)


class MovesTest(unittest.TestCase):
    def play(self, luck, claim, setting, player):
        """Plays to the end: the hand that can win moves by best, the other one by the player."""
        duel = Duel(claim, setting)
        hand = wins(duel)
        self.assertEqual(hand, 0 if is_so(claim, setting) else 1)
        while duel.kind != "over":
            before = stand(duel)
            self.assertEqual(wins(duel), hand, (claim, setting, duel.moves))
            move = best(duel)
            self.assertEqual(move, best(duel.twin()))
            self.assertEqual(stand(duel), before)
            if duel.turn == hand:
                self.check_winning(duel, move)
            else:
                move = player(luck, duel)
            duel.move(move)
        self.assertEqual((wins(duel), duel.winner), (hand, hand), (claim, setting, duel.moves))

    def check_winning(self, duel, move):
        """What the move of a hand that can win must be."""
        if move[0] == "lay":
            for one, (_, name, part) in zip(move[1], duel.claim[3]):
                right = all_for(part, name, duel.setting)
                self.assertIsNotNone(one.many())
                self.assertTrue(one.same(right))
        elif move[0] == "doubt":
            _, name, part = duel.claim[3][move[1]]
            is_right = is_so(part, {**dict(duel.setting), name: move[2]})
            self.assertNotEqual(duel.laid[move[1]].has(move[2]), is_right)
        elif move[0] == "name" and duel.claim[0] == "endless":
            _, name, part = duel.claim
            if duel.bound is None:
                right = all_for(part, name, duel.setting)
                if right.many() not in (None, 0) and duel.turn != duel.keeper:
                    self.assertGreater(abs(move[1]), max(abs(right.least()), abs(right.greatest())))
            else:
                self.assertGreaterEqual(abs(move[1]), abs(duel.bound))
                self.assertTrue(is_so(part, {**dict(duel.setting), name: move[1]}))

    def play_all(self, luck, claim):
        names = free_in(claim)
        for player in PLAYERS:
            setting = {name: luck.choice((luck.randint(-9, 9), luck.randint(-9, 9), 10 ** 30 + luck.randint(-9, 9)))
                       for name in names}
            self.play(luck, claim, setting, player)
            self.play(luck, contrary(claim), setting, player)

    def test_one_level(self):
        luck = chance(200)
        for _ in range(60):
            literals = [random_literal(luck, "nxy", ms=(2, 3, 4), factors=(-3, -2, -1, 1, 2, 3))
                        for _ in range(luck.randint(1, 5))]
            claim = random_bound(luck, random_tree(luck, literals), "x", ("some", "all", "endless"))
            self.play_all(luck, random_tree(luck, [claim, random_literal(luck, "ny"),
                                                   ("not", random_literal(luck, "n"))]))

    def test_more_levels(self):
        luck = chance(201)
        for k in range(40):
            names = "yx" if k % 2 else "zyx"
            literals = [random_literal(luck, "n" + names, ("below", "zero")) for _ in range(3)]
            if k % 2:
                literals[0] = random_literal(luck, "nxy", ("rests",))
            self.play_all(luck, random_bound(luck, random_tree(luck, literals), names, ("some", "all", "endless")))

    def test_how_manys(self):
        luck = chance(202)
        for k in range(40):
            inner = ("and", random_literal(luck, "nx", ("below",), must="x"),
                     random_literal(luck, "kx", ("below",), must="x"))
            if k % 2:
                inner = ("and", from_to("x", luck.randint(-9, 3), luck.randint(-3, 9)),
                         random_literal(luck, "nx", must="x", ms=(2, 3, 4)))
            rows = [(luck.choice((-2, -1, 1, 2)), "x", inner)]
            if k % 3 == 0:
                rows.append((luck.choice((-1, 1)), "y", from_to("y", -2, luck.randint(-2, 4))))
            claim = ("count", luck.choice(("below", "zero")), (luck.randint(-3, 3), (("n", 1),)), tuple(rows))
            self.play_all(luck, claim)
            self.play_all(luck, ("or", ("not", claim), random_literal(luck, "n")))
        within = ("count", "zero", (-1, (("n", 1),)), ((1, "x", from_to("x", 0, 3)),))
        around = ("count", "below", (-3, ()), ((2, "n", both([within, below(0, k=1, n=1)])),))
        self.play_all(luck, around)
        self.play_all(luck, ("all", "k", around))
        self.play_all(luck, ("some", "k", ("not", around)))

    def test_payings(self):
        luck = chance(203)
        for coins in ((3, 5), (4, 6), (15, 7), (2, 3, 7)):
            claim = zero(0, n=-1, **dict(zip("abc", coins)))
            for name in "abc"[:len(coins)]:
                claim = ("some", name, ("and", ("not", below(0, **{name: 1})), claim))
            self.play_all(luck, claim)
            self.play_all(luck, ("all", "n", ("or", below(-40, n=1), claim)))
            self.play_all(luck, ("endless", "n", claim))
            self.play_all(luck, ("endless", "n", ("and", ("not", below(0, n=1)), ("not", claim))))
            self.play_all(luck, ("count", "zero", (-4, ()),
                                 ((1, "n", ("and", ("not", below(0, n=1)), ("not", claim))),)))

    def test_divisions(self):
        luck = chance(204)
        for _ in range(20):
            literals = [random_literal(luck, "x", ("rests",), (3, 4, 5, 7, 60, 84, 105, 420), (1, 2, 3))
                        for _ in range(6)]
            self.play_all(luck, random_bound(luck, random_tree(luck, literals), "x"))

    def test_against_trial(self):
        luck = chance(205)
        for _ in range(60):
            literals = [random_literal(luck, "nxy", span=4) for _ in range(2)]
            claim = random_bound(luck, random_tree(luck, literals), "xy", ("some", "all"))
            for n in (-3, 0, 4):
                expected = so_by_trial(claim, {"n": n}, (12, 60))
                self.assertEqual(wins(Duel(claim, {"n": n})), 0 if expected else 1, (claim, n))

    def test_each_kind_of_move(self):
        duel = Duel(("or", NO, below(0, x=1), YES), {"x": 4})
        self.assertEqual((wins(duel), best(duel)), (0, ("part", 2)))
        duel = Duel(("and", YES, ("not", zero(-4, x=1)), NO), {"x": 4})
        self.assertEqual((wins(duel), best(duel)), (1, ("part", 1)))
        duel = Duel(("some", "y", zero(-10 ** 40, x=1, y=2)), {"x": 4})
        self.assertEqual((wins(duel), best(duel)), (0, ("name", 5 * 10 ** 39 - 2)))
        duel = Duel(("all", "y", ("not", zero(-10, x=1, y=2))), {"x": 4})
        self.assertEqual((wins(duel), best(duel)), (1, ("name", 3)))
        for claim in (("some", "y", zero(-9, x=1, y=2)), ("all", "y", YES), ("or", NO, NO), ("and", YES, YES)):
            duel = Duel(claim, {"x": 4})
            self.assertEqual(wins(duel), 1 if claim[0] in ("some", "or") else 0)
            self.assertEqual(best(duel)[0], "part" if claim[0] in ("or", "and") else "name")
            duel.move(best(duel))

    def test_endless_bounds(self):
        right = both([("not", below(0, x=1)), rests(5, 2, x=1)])
        for claim, numbers in ((("endless", "x", right), (3, 8, 13)),
                               (("endless", "x", ("not", below(0, x=-1))), (-1, -10 ** 30))):
            for bound in (0, 1, -1, 7, -7, 10 ** 40, -10 ** 40):
                duel = Duel(claim, {})
                self.assertEqual((wins(duel), duel.turn), (0, 1))
                duel.move(("name", bound))
                self.assertEqual((wins(duel), duel.turn), (0, 0))
                _, number = best(duel)
                self.assertGreaterEqual(abs(number), abs(bound))
                self.assertTrue(plain_so(claim[2], {"x": number}))
            self.assertTrue(all(plain_so(claim[2], {"x": number}) for number in numbers))
        few = ("endless", "x", from_to("x", -7, 4))
        for claim in (few, ("not", ("not", few)), ("endless", "x", NO), ("endless", "x", zero(10 ** 30, x=2))):
            duel = Duel(claim, {})
            self.assertEqual((wins(duel), duel.turn), (1, 1))
            duel.move(best(duel))
            self.assertEqual((wins(duel), duel.turn), (1, 0))
            self.assertEqual(best(duel)[0], "name")
        # A bound that is too near lets the keeper win, though the claim is not so.
        for bound, hand, numbers in ((7, 0, (-7,)), (-7, 0, (-7,)), (5, 0, (-7, -6, -5)), (8, 1, None),
                                     (0, 0, range(-7, 4)), (-3, 0, None)):
            duel = Duel(few, {})
            duel.move(("name", bound))
            self.assertEqual(wins(duel), hand)
            if numbers is not None:
                self.assertIn(best(duel)[1], numbers)
        self.assertGreater(best(Duel(few, {}))[1], 7)

    def assert_laid(self, move, layout):
        self.assertEqual((move[0], len(move[1])), ("lay", 1))
        self.assertTrue(move[1][0].same(layout))

    def test_layouts_laid(self):
        week = ("count", "zero", (-1, ()), ((1, "x", both([rests(7, 0, x=1), below(-1, d=1, x=-1),
                                                           below(-7, d=-1, x=1)])),))
        for d in (10, -10 ** 40, 10 ** 30 + 3):
            duel = Duel(week, {"d": d})
            monday = next(x for x in range(d, d + 7) if x % 7 == 0)
            self.assertEqual(wins(duel), 0)
            self.assert_laid(best(duel), layout(monday))
            for laid, hand, doubts in (
                    (layout(monday), 0, None), (layout(), 1, ("take",)), (layout(monday, monday + 1), 1, ("take",)),
                    (layout(monday + 1), 1, None), (layout(monday + 7), 1, None), (layout(d + 10 ** 50), 1, None)):
                other = duel.twin()
                other.move(("lay", [laid]))
                self.assertEqual((wins(other), other.turn), (hand, 1))
                move = best(other)
                if doubts is not None:
                    self.assertEqual(move, doubts)
                elif hand == 1:
                    self.assertEqual(move[:2], ("doubt", 0))
                    self.assertNotEqual(laid.has(move[2]), move[2] == monday)
                other.move(move)
                self.assertEqual(wins(other), hand)
        # Rows of many numbers, with one number more or less, far away.
        great = ("count", "below", (-10 ** 50, ()), ((1, "x",
                                                      both([from_to("x", 0, 6 * 10 ** 30 + 1), rests(2, 0, x=1)])),))
        duel = Duel(great, {})
        self.assert_laid(best(duel), Layout([(0, 6 * 10 ** 30, 2)]))
        for rows, number in (([(0, 6 * 10 ** 30, 2)], None), ([(0, 6 * 10 ** 30 - 2, 2)], 6 * 10 ** 30),
                             ([(0, 2 * 10 ** 30, 2), (2 * 10 ** 30 + 4, 6 * 10 ** 30, 2)], 2 * 10 ** 30 + 2),
                             ([(0, 6 * 10 ** 30, 2), (10 ** 20 + 1, 10 ** 20 + 1, 5)], 10 ** 20 + 1),
                             ([(0, 6 * 10 ** 30, 6), (2, 6 * 10 ** 30 - 4, 6), (4, 6 * 10 ** 30 - 2, 6)], None)):
            other = duel.twin()
            other.move(("lay", [Layout(rows)]))
            self.assertEqual(wins(other), 0 if number is None else 1)
            self.assertEqual(best(other), ("take",) if number is None else ("doubt", 0, number))

    def test_an_endless_how_many(self):
        claim = ("count", "below", (-10 ** 9, ()), ((1, "x", from_to("x", 0, 3)), (1, "y", rests(2, 0, y=1))))
        duel = Duel(claim, {})
        self.assertEqual((wins(duel), best(duel)[0], len(best(duel)[1])), (1, "lay", 2))
        for laid in (Layout([]), Layout([(0, 10 ** 40, 2)]), Layout([(-10 ** 40, 10 ** 40, 2)])):
            other = duel.twin()
            other.move(("lay", [layout(0, 1, 2), laid]))
            self.assertEqual(wins(other), 1)
            move = best(other)
            if move[0] == "doubt":
                self.assertEqual((move[1], move[2] % 2, laid.has(move[2])), (1, 0, False))
            other.move(move)
            self.assertEqual((wins(other), other.kind), (1, "over"))

    def test_over(self):
        for claim, hand in ((YES, 0), (NO, 1), (("not", NO), 0), (below(0, x=1), 1)):
            duel = Duel(claim, {"x": 0})
            self.assertEqual(wins(duel), hand)
            self.assertEqual(told(best, duel), ("Over",))

    def test_what_is_no_duel(self):
        for value in [*ODD_VALUES, Odd(), YES, Layout([]), Duel, (YES, ())]:
            self.assertEqual(told(wins, value), ("BadDuel", "duel"))
            self.assertEqual(told(best, duel=value), ("BadDuel", "duel"))

    def test_a_claim_and_its_contrary(self):
        """They are won by unlike hands, by the same moves of the other hands."""
        luck = chance(207)
        for _ in range(80):
            literals = [random_literal(luck, "nxy") for _ in range(3)]
            claim = random_bound(luck, random_tree(luck, literals), luck.choice(("x", "yx")))
            for n in (-3, 0, 10 ** 30):
                duel, other = Duel(claim, {"n": n, "x": 1, "y": 2}), Duel(contrary(claim), {"n": n, "x": 1, "y": 2})
                while duel.kind != "over":
                    self.assertEqual((wins(duel), duel.turn), (1 - wins(other), 1 - other.turn))
                    self.assertEqual(best(duel), best(other))
                    duel.move(best(duel))
                    other.move(best(other))
                self.assertEqual((duel.moves, duel.winner, other.kind), (other.moves, 1 - other.winner, "over"))

    def test_a_number_put_in(self):
        """A number put in for a name, and a setting that tells it, are won by the same hand."""
        luck = chance(206)
        for _ in range(30):
            claim = random_bound(luck, random_tree(luck, [random_literal(luck, "nxy") for _ in range(3)]), "x")
            for number in (-4, 0, 10 ** 30):
                setting = {"n": number, "y": luck.randint(-9, 9)}
                put = put_in(claim, "n", (number, ()))
                self.assertEqual(wins(Duel(claim, setting)), wins(Duel(put, setting)))
                self.assertNotEqual(wins(Duel(claim, setting)), wins(Duel(("not", put), setting)))


if __name__ == "__main__":
    unittest.main()
