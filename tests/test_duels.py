"""Duels [10]: what is left, who moves, places, and what ends a duel."""

import unittest

from claimduel.claim_texts import read_claim
from claimduel.claims import free_in
from claimduel.duels import Duel
from claimduel.layouts import Layout
from support import BAD_CLAIMS, BAD_SETTINGS, ODD_VALUES, Odd, below, chance, from_to, lists, random_bound, random_literal
from support import random_tree, told, zero

ATTRIBUTES = ("claim", "setting", "keeper", "place", "bound", "laid", "kind", "turn", "winner", "moves")
YES, NO = ("yes",), ("no",)
BAD_MOVES = [
    ("part",), ("part", -1), ("part", True), ("part", 1.0), ("part", "0"), ("part", 0, 0), ("name",), ("name", None),
    ("name", True), ("name", "3"), ("name", 3, 4), ("lay",), ("lay", None), ("lay", Layout([])), ("lay", [[]]), ("lay", [()]),
    ("lay", [Layout([]), None]), ("lay", {}), ("lay", [Layout([])], 1), ("doubt", 0), ("doubt", -1, 0), ("doubt", True, 0),
    ("doubt", 0, True), ("doubt", 0, None), ("doubt", 0, 1, 2), ("take", 0), "take", ("Take",), ("over",), (), None, Odd(), (Odd(),),
    ("part", Odd()), ("lay", [Odd()]), {"take": 1}, (b"take",), ("stop",), (None,), (("take",),), 5, ("lay", "x"),
]


def stand(duel):
    return {name: getattr(duel, name) for name in ATTRIBUTES}


def layout(*numbers):
    return Layout([(number, number, 1) for number in numbers])


class Referee:
    """A second way to play a duel, by the table of point [10]."""

    def __init__(self, claim, setting):
        self.claim, self.known, self.keeper, self.place = claim, dict(setting), 0, ()
        self.bound = self.laid = self.winner = None
        self.settle()

    def settle(self):
        while self.claim[0] == "not":
            self.claim, self.keeper, self.place = self.claim[1], 1 - self.keeper, self.place + (0,)
        if self.claim[0] in ("yes", "no", "below", "zero", "rests"):
            form = self.claim[-1] if len(self.claim) > 1 else (0, ())
            worth = form[0] + sum(factor * self.known[name] for name, factor in form[1])
            right = {"yes": True, "no": False, "below": worth < 0, "zero": worth == 0,
                     "rests": self.claim[0] == "rests" and worth % self.claim[1] == 0}[self.claim[0]]
            self.winner = self.keeper if right else 1 - self.keeper

    def due(self):
        """The kind of the move and the hand that moves."""
        label = self.claim[0]
        if self.winner is not None:
            return "over", None
        if label in ("and", "or"):
            return "part", self.keeper if label == "or" else 1 - self.keeper
        if label in ("all", "some"):
            return "name", self.keeper if label == "some" else 1 - self.keeper
        if label == "endless":
            return "name", self.keeper if self.bound is not None else 1 - self.keeper
        return ("lay", self.keeper) if self.laid is None else ("doubt", 1 - self.keeper)

    def go(self, index, claim):
        self.claim, self.place, self.bound, self.laid = claim, self.place + (index,), None, None
        self.settle()

    def move(self, move):
        label = self.claim[0]
        if label in ("and", "or"):
            self.go(move[1], self.claim[move[1] + 1])
        elif label == "endless" and self.bound is None:
            self.bound = move[1]
        elif label == "endless" and abs(move[1]) < abs(self.bound):
            self.winner, self.bound = 1 - self.keeper, None
        elif label in ("all", "some", "endless"):
            self.known[self.claim[1]] = move[1]
            self.go(0, self.claim[2])
        elif move[0] == "lay":
            self.laid = tuple(move[1])
        elif move[0] == "doubt":
            _, name, claim = self.claim[3][move[1]]
            if not self.laid[move[1]].has(move[2]):
                self.keeper = 1 - self.keeper
            self.known[name] = move[2]
            self.go(move[1], claim)
        else:
            _, kind, form, rows = self.claim
            total = form[0] + sum(factor * self.known[name] for name, factor in form[1])
            total += sum(row[0] * one.many() for row, one in zip(rows, self.laid))
            is_kept = total < 0 if kind == "below" else total == 0
            self.winner, self.laid = self.keeper if is_kept else 1 - self.keeper, None


class DuelTest(unittest.TestCase):
    def check(self, duel, **expected):
        self.assertEqual({name: getattr(duel, name) for name in expected}, expected)

    def refused(self, duel, move, *error):
        before = stand(duel)
        self.assertEqual(told(duel.move, move), error)
        self.assertEqual(stand(duel), before)

    def test_parts(self):
        claim = ("and", ("or", below(0, x=1), YES), ("not", ("or", NO, zero(0, y=1), below(-3, x=1))))
        duel = Duel(claim, {"x": 2, "y": 0, "z": 9})
        self.check(duel, claim=claim, setting=(("x", 2), ("y", 0)), keeper=0, place=(), bound=None, laid=None, kind="part",
                   turn=1, winner=None, moves=())
        self.refused(duel, ("part", 2), "Misfit", "index")
        self.refused(duel, ("name", 2), "Misfit", "kind")
        self.assertIsNone(duel.move(["part", 1]))
        self.check(duel, claim=claim[2][1], setting=(("x", 2), ("y", 0)), keeper=1, place=(1, 0), kind="part", turn=1,
                   winner=None, moves=(("part", 1),))
        other = duel.twin()
        self.refused(duel, ("part", 3), "Misfit", "index")
        duel.move(("part", 1))
        self.check(duel, claim=zero(0, y=1), setting=(("y", 0),), keeper=1, place=(1, 0, 1), kind="over", turn=None, winner=1,
                   moves=(("part", 1), ("part", 1)))
        other.move(("part", 0))
        self.check(other, claim=NO, setting=(), keeper=1, place=(1, 0, 0), kind="over", turn=None, winner=0,
                   moves=(("part", 1), ("part", 0)))
        self.refused(duel, ("part", 0), "Over")
        self.refused(duel, ("take",), "Over")
        self.refused(duel, ("part", -1), "BadMove", "move")

    def test_names(self):
        duel = Duel(read_claim("all n : some x : ( -1 n + 2 x + 0 = 0 or -1 n + 2 x + -1 = 0 )"), ())
        self.check(duel, turn=1, kind="name", keeper=0, setting=(), bound=None)
        duel.move(("name", 10 ** 40 + 1))
        self.check(duel, turn=0, kind="name", keeper=0, setting=(("n", 10 ** 40 + 1),), place=(0,))
        duel.move(("name", 5 * 10 ** 39))
        self.check(duel, turn=0, kind="part", setting=(("n", 10 ** 40 + 1), ("x", 5 * 10 ** 39)), place=(0, 0))
        duel.move(("part", 1))
        self.check(duel, turn=None, winner=1, kind="over", place=(0, 0, 1))
        duel = Duel(("not", ("some", "x", below(0, x=1))), {"x": 7})
        self.check(duel, turn=1, kind="name", keeper=1, setting=(), place=(0,), claim=("some", "x", below(0, x=1)))
        duel.move(("name", -1))
        self.check(duel, winner=1, setting=(("x", -1),), place=(0, 0), keeper=1)

    def test_endless_bounds(self):
        claim = ("endless", "x", ("or", below(0, n=1, x=1), NO))
        for bound, number, is_near in ((-5, 4, True), (-5, -5, False), (5, -5, False), (5, 4, True), (5, -4, True), (0, 0, False),
                                       (-5, 6, False), (10 ** 40, -10 ** 40, False), (10 ** 40, 10 ** 40 - 1, True)):
            duel = Duel(claim, {"n": 0, "x": 99})
            self.check(duel, turn=1, kind="name", bound=None, setting=(("n", 0),))
            duel.move(("name", bound))
            self.check(duel, turn=0, kind="name", bound=bound, claim=claim, setting=(("n", 0),), place=(), winner=None)
            duel.move(("name", number))
            moves = (("name", bound), ("name", number))
            if is_near:
                self.check(duel, kind="over", winner=1, turn=None, bound=None, claim=claim, setting=(("n", 0),), place=(),
                           keeper=0, moves=moves)
            else:
                self.check(duel, kind="part", winner=None, turn=0, bound=None, claim=claim[2],
                           setting=(("n", 0), ("x", number)), place=(0,), moves=moves)
        duel = Duel(("not", claim), {"n": 0})
        self.check(duel, turn=0, keeper=1, place=(0,))
        duel.move(("name", -3))
        self.check(duel, turn=1, bound=-3)
        duel.move(("name", 2))
        self.check(duel, winner=0)

    def test_layouts(self):
        monday = read_claim("( 7 | 1 x + 0 and 1 d + -1 x + -1 < 0 and -1 d + 1 x + -7 < 0 )")
        claim = ("count", "zero", (-2, (("n", 1),)), ((1, "x", monday), (-3, "y", ("not", from_to("y", 0, 2)))))
        duel = Duel(claim, {"d": 10, "n": 1})
        self.check(duel, turn=0, kind="lay", laid=None, setting=(("d", 10), ("n", 1)), place=())
        for layouts in ([], [layout(14)], [layout(14)] * 3, [layout(14), Layout([(0, None, 1)])], [Layout([(None, 0, 5)]), layout()]):
            self.refused(duel, ("lay", layouts), "Misfit", "layouts")
        self.refused(duel, ("take",), "Misfit", "kind")
        self.refused(duel, ("doubt", 0, 1), "Misfit", "kind")
        laid = (layout(14), Layout([]))
        duel.move(["lay", list(laid)])
        self.check(duel, turn=1, kind="doubt", laid=laid, claim=claim, place=(), setting=(("d", 10), ("n", 1)), keeper=0,
                   moves=(("lay", laid),))
        self.refused(duel, ("lay", laid), "Misfit", "kind")
        self.refused(duel, ("doubt", 2, 1), "Misfit", "index")
        taken, doubted, other = duel.twin(), duel.twin(), duel.twin()
        taken.move(("take",))
        self.check(taken, kind="over", winner=0, turn=None, laid=None, claim=claim, place=(), setting=(("d", 10), ("n", 1)),
                   moves=(("lay", laid), ("take",)))
        doubted.move(("doubt", 0, 14))
        self.check(doubted, kind="part", keeper=0, turn=1, laid=None, claim=monday, setting=(("d", 10), ("x", 14)), place=(0,))
        doubted.move(("part", 0))
        self.check(doubted, winner=0, place=(0, 0))
        # Without 5 in the layout the not of the claim is left: this and the not within it turn the hands twice.
        other.move(("doubt", 1, 5))
        self.check(other, kind="part", keeper=0, turn=1, laid=None, claim=from_to("y", 0, 2), setting=(("y", 5),), place=(1, 0),
                   moves=(("lay", laid), ("doubt", 1, 5)))
        other.move(("part", 1))
        self.check(other, winner=1)
        duel.move(("doubt", 0, 15))
        self.check(duel, kind="part", keeper=1, turn=0, claim=monday, setting=(("d", 10), ("x", 15)), place=(0,))

    def test_taking(self):
        for kind, constant, factors, numbers, is_kept in (
                ("zero", -4, (2, -1), (3, 2), True), ("zero", -4, (2, -1), (3, 1), False), ("below", 0, (1, -1), (2, 3), True),
                ("below", 0, (1, -1), (3, 3), False), ("below", -1, (1, -1), (3, 3), True), ("zero", 0, (1, 1), (0, 0), True)):
            rows = tuple((factor, name, YES) for factor, name in zip(factors, "xy"))
            duel = Duel(("not", ("count", kind, (constant, ()), rows)), {})
            self.check(duel, keeper=1, turn=1, kind="lay")
            duel.move(("lay", [Layout([(5, 5 + 2 * (many - 1), 2)] if many else []) for many in numbers]))
            self.check(duel, turn=0, kind="doubt")
            duel.move(("take",))
            self.check(duel, winner=1 if is_kept else 0, place=(0,))

    def test_nots(self):
        claim = ("not", ("not", ("not", ("all", "x", ("not", ("not", below(0, x=1)))))))
        duel = Duel(claim, {})
        self.check(duel, keeper=1, turn=0, place=(0, 0, 0), kind="name")
        duel.move(("name", 4))
        self.check(duel, keeper=1, winner=0, place=(0, 0, 0, 0, 0, 0), claim=below(0, x=1), setting=(("x", 4),))
        duel = Duel(("not", ("not", NO)), {})
        self.check(duel, winner=1, keeper=0, place=(0, 0), kind="over", turn=None, moves=(), claim=NO, setting=())
        duel = Duel(("not", below(0, x=1)), {"x": 0, "y": 1})
        self.check(duel, winner=0, keeper=1, place=(0,), setting=(("x", 0),), bound=None, laid=None)

    def test_a_name_free_at_one_place_and_bound_at_another(self):
        claim = ("and", below(0, x=1), ("some", "x", ("or", zero(-5, x=1), NO)))
        duel = Duel(claim, {"x": -1})
        self.check(duel, setting=(("x", -1),))
        other = duel.twin()
        duel.move(("part", 1))
        self.check(duel, setting=())
        duel.move(("name", 5))
        self.check(duel, setting=(("x", 5),))
        duel.move(("part", 0))
        self.check(duel, winner=0)
        other.move(("part", 0))
        self.check(other, winner=0, setting=(("x", -1),))

    def test_against_a_referee(self):
        luck = chance(180)
        for k in range(400):
            literals = [random_literal(luck, "nxyz"[:1 + luck.randint(1, 3)]) for _ in range(luck.randint(1, 4))]
            claim = random_tree(luck, literals)
            for names in ("x", "yz"):
                claim = random_bound(luck, claim, names)
                claim = random_tree(luck, [claim, random_literal(luck, "n")])
            setting = {"n": luck.randint(-9, 9), "x": 1, "y": 2, "z": 3}
            duel, referee = Duel(lists(claim), setting), Referee(claim, setting)
            moves = ()
            while True:
                kind, turn = referee.due()
                known = tuple((name, referee.known[name]) for name in free_in(referee.claim))
                self.check(duel, claim=referee.claim, setting=known, keeper=referee.keeper, place=referee.place, kind=kind,
                           turn=turn, winner=referee.winner, bound=referee.bound, laid=referee.laid, moves=moves)
                if kind == "over":
                    break
                move = self.random_move(luck, referee.claim, kind)
                twin, before = duel.twin(), stand(duel)
                twin.move(move)
                self.assertEqual(stand(duel), before)
                duel.move(lists(move) if kind != "lay" else ["lay", list(move[1])])
                self.assertEqual(stand(duel), stand(twin))
                self.assertIsInstance(twin, Duel)
                referee.move(move)
                moves += (move,)
            self.refused(duel, ("name", 1), "Over")

    def random_move(self, luck, claim, kind):
        if kind == "part":
            return ("part", luck.randrange(len(claim) - 1))
        if kind == "name":
            return ("name", luck.choice((luck.randint(-9, 9), 10 ** 40)))
        if kind == "lay":
            return ("lay", tuple(layout(*range(luck.randint(0, 4))) for _ in claim[3]))
        return luck.choice((("take",), ("doubt", luck.randrange(len(claim[3])), luck.randint(-2, 5))))

    def test_wrong_moves(self):
        duels = [Duel(("or", YES, NO), {}), Duel(("some", "x", YES), {}), Duel(("endless", "x", YES), {}), Duel(YES, {}),
                 Duel(("count", "zero", (0, ()), ((1, "x", YES),)), {})]
        duels.append(duels[-1].twin())
        duels[-1].move(("lay", [Layout([])]))
        kinds = ("part", "name", "name", "over", "lay", "doubt")
        self.assertEqual(tuple(duel.kind for duel in duels), kinds)
        right = {"part": ("part", 0), "name": ("name", 0), "lay": ("lay", [Layout([])]), "doubt": ("take",)}
        for duel, kind in zip(duels, kinds):
            for value in BAD_MOVES:
                self.refused(duel, value, "BadMove", "move")
            for value in ODD_VALUES:
                self.refused(duel, value, "BadMove", "move")
            for other, move in right.items():
                if kind == "over":
                    self.refused(duel, move, "Over")
                elif other != kind:
                    self.refused(duel, move, "Misfit", "kind")
        self.refused(duels[4], ("lay", []), "Misfit", "layouts")
        self.refused(duels[4], ("lay", [Layout([(0, None, 1)])]), "Misfit", "layouts")
        self.refused(duels[5], ("doubt", 1, 0), "Misfit", "index")
        self.refused(duels[0], ("part", 2), "Misfit", "index")
        self.refused(duels[0], ("part", 10 ** 50), "Misfit", "index")
        self.assertEqual(told(duels[0].move, move=None), ("BadMove", "move"))

    def test_wrong_duels(self):
        for value in BAD_CLAIMS:
            self.assertEqual(told(Duel, value, None), ("BadClaim", "claim"))
        for value in BAD_SETTINGS:
            self.assertEqual(told(Duel, setting=value, claim=YES), ("BadSetting", "setting"))
        claim = ("or", ("some", "a", below(0, a=1, c=1)), below(0, b=1, y=1))
        self.assertEqual(told(Duel, claim, {"a": 1}), ("NoName", "b"))
        self.assertEqual(told(Duel, claim, {"b": 1, "y": 1}), ("NoName", "c"))

    def test_what_is_passed_stays(self):
        claim, setting, move = lists(("some", "x", below(0, x=1, n=1))), [["n", 4]], ["name", 3]
        duel = Duel(claim, setting)
        duel.move(move)
        self.assertEqual((claim, setting, move), (lists(("some", "x", below(0, x=1, n=1))), [["n", 4]], ["name", 3]))
        self.assertEqual(duel.claim, below(0, x=1, n=1))
        setting, table = {"n": 4}, {"n": 4}
        Duel(("some", "n", YES), table).move(("name", 9))
        self.assertEqual(setting, table)


if __name__ == "__main__":
    unittest.main()
