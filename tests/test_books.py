"""Books [10]: what rows give, books that win, books written in, and moves by them."""

import unittest

from claimduel.books import Book, book_for, by_book, given_by, written
from claimduel.check_books import shows_book
from claimduel.claims import free_in, is_claim, is_plain, levels_of
from claimduel.duels import Duel
from claimduel.layouts import Layout
from claimduel.meaning import is_so
from claimduel.moves import wins
from claimduel.rows import number_by
from reckoning import near_numbers, plain_so, worth_at
from support import BAD_CLAIMS, BAD_NAMES, BAD_NUMBERS, BAD_SETTINGS, ODD_VALUES, Odd, below, chance, lists, random_bound
from support import random_form, random_literal, random_tree, rests, told, zero

YES, NO = ("yes",), ("no",)
HALVES = ("all", "n", ("some", "x", ("or", zero(0, n=-1, x=2), zero(-1, n=-1, x=2))))
UP, DOWN = ("at", 2, (1, (("n", 1),))), ("at", 2, (0, (("n", 1),)))
BAD_ROWS = [None, "left", ("at",), ("at", 0, (0, ())), ("at", True, (0, ())), ("at", 1, (0,)), ("at", 1, (0, ()), ()),
            ("up", 1, (0, ())),
            ("left", 2, 2, ()), ("left", -1, 2, ()), ("left", 0, 0, ()), ("right", 0, 1, (1, (0, ()))),
            ("right", 0, 1, [(0, (0, ()))]),
            ("right", True, 2, ()), ("left", 0, 1), ("left", 0, 1, (), ()), Odd(), [Odd()], {}, 1, b"at",
            ("at", 1, Odd())]
WITHOUT_BOOKS = [("count", "zero", (0, ()), ((1, "x", YES),)), ("endless", "x", YES),
                 ("and", YES, ("not", ("endless", "x", NO))),
                 ("some", "y", ("count", "below", (0, ()), ((1, "x", YES),)))]


def random_row(luck, names, ms=(1, 2, 3, 4), ds=(1, 1, 2, 3), marks=(1, 2, 3), span=9):
    def form():
        return random_form(luck, sorted(names), (-2, -1, 1, 2), span)

    kind = luck.choice(("at", "left", "right"))
    if kind == "at":
        return (kind, luck.choice(ds), form())
    m = luck.choice(ms)
    return (kind, luck.randrange(m), m, tuple((luck.choice(ds), form()) for _ in range(luck.choice(marks))))


def number_of(row, setting):
    """The number that a row gives, by trial near its marks."""
    if row[0] == "at":
        worth = worth_at(row[2], setting)
        return worth // row[1] if worth % row[1] == 0 else None
    side, rest, m, marks = row
    if not marks:
        return rest
    ends = [(d, worth_at(form, setting)) for d, form in marks]
    start = min(worth // d for d, worth in ends) if side == "left" else max(worth // d for d, worth in ends)
    numbers = range(start + 1, start - 2 * m - 1, -1) if side == "left" else range(start, start + 2 * m + 2)
    return next(number for number in numbers if number % m == rest
                and all(d * number < worth if side == "left" else d * number > worth for d, worth in ends))


def places_by(claim, hand, place=(), keeper=0, bound=()):
    """The places where a hand names numbers, with the name there and the names bound around."""
    label = claim[0]
    if label == "not":
        return places_by(claim[1], hand, place + (0,), 1 - keeper, bound)
    if label in ("and", "or"):
        return [row for at, part in enumerate(claim[1:]) for row in places_by(part, hand, place + (at,), keeper, bound)]
    if label not in ("some", "all"):
        return []
    here = [(place, claim[1], bound)] if (keeper if label == "some" else 1 - keeper) == hand else []
    return here + places_by(claim[2], hand, place + (0,), keeper, (*bound, claim[1]))


def wins_by_trial(claim, book, table, numbers, place=(), keeper=0):
    """Whether a book wins, where the other hand names one of these numbers."""
    label = claim[0]
    if label == "not":
        return wins_by_trial(claim[1], book, table, numbers, place + (0,), 1 - keeper)
    if label in ("and", "or"):
        is_own = (keeper if label == "or" else 1 - keeper) == book.hand
        return (any if is_own else all)(wins_by_trial(part, book, table, numbers, place + (at,), keeper)
                                        for at, part in enumerate(claim[1:]))
    if label not in ("some", "all"):
        return (keeper if plain_so(claim, table) else 1 - keeper) == book.hand
    is_own = (keeper if label == "some" else 1 - keeper) == book.hand
    if is_own:
        numbers_here = [number_of(row, table) for row in dict(book.rows)[place]]
        numbers_here = [number for number in numbers_here if number is not None]
    else:
        numbers_here = numbers
    return (any if is_own else all)(wins_by_trial(claim[2], book, {**table, claim[1]: number}, numbers, place + (0,),
                                                  keeper)
                                    for number in numbers_here)


class GivenTest(unittest.TestCase):
    def check(self, row, setting):
        plain = given_by(row, "x")
        self.assertTrue(is_plain(plain))
        names = {name for form in ([row[2]] if row[0] == "at" else [form for _, form in row[3]]) for name, _ in form[1]}
        self.assertLessEqual(set(free_in(plain)), names | {"x"})
        number = number_of(row, setting)
        self.assertEqual(number, number_by(row, setting))
        numbers = near_numbers(plain, "x", setting) if len(free_in(plain)) else []
        if number is not None:
            numbers += [number + k for k in (-12, -4, -3, -2, -1, 0, 1, 2, 3, 4, 12)]
        for x in [*numbers, 0, 1, 10 ** 35]:
            self.assertEqual(plain_so(plain, {**setting, "x": x}), x == number, (row, setting, x))

    def test_rows(self):
        luck = chance(210)
        for k in range(400):
            row = random_row(luck, "kn", ms=(1, 2, 3, 5, 7), marks=(0, 1, 2, 3), span=luck.choice((9, 10 ** 30)))
            base = luck.choice((0, 0, 10 ** 30, -10 ** 30))
            self.check(row, {"k": base + luck.randint(-9, 9), "n": base + luck.randint(-9, 9)})

    def test_by_hand(self):
        self.check(("at", 3, (1, (("n", 1),))), {"n": 5, "k": 0})
        self.check(("at", 3, (1, (("n", 1),))), {"n": 6, "k": 0})
        self.check(("left", 3, 5, ()), {})
        self.check(("right", 0, 1, ()), {})
        self.check(("left", 0, 1, ((2, (0, (("n", 1),))), (2, (0, (("n", 1),))))), {"n": 4})
        self.check(("right", 0, 1, ((1, (4, ())),)), {})
        far = given_by(("left", 7, 10 ** 30, ((1, (0, (("n", 1),))), (10 ** 28 + 1, (5, ())))), "x")
        for n, number in ((-4, 7 - 10 ** 30), (8, 7 - 10 ** 30), (7 - 10 ** 30, 7 - 2 * 10 ** 30)):
            self.assertEqual([k for k in (-3, -2, -1, 0, 1) if plain_so(far, {"n": n, "x": number + k * 10 ** 30})],
                             [0])
            self.assertFalse(plain_so(far, {"n": n, "x": number + 1}))

    def test_wrong(self):
        for value in BAD_ROWS:
            self.assertEqual(told(given_by, value, None), ("BadRow", "row"))
        for value in BAD_NAMES:
            self.assertEqual(told(given_by, UP, value), ("BadName", "name"))
        for row in (UP, ("left", 0, 2, [(1, (0, ())), (1, (0, [("n", 2)]))]), ["right", 0, 1, [[3, [0, [["n", 1]]]]]]):
            self.assertEqual(told(given_by, name="n", row=row), ("Misfit", "name"))
            self.assertIsNone(told(given_by, row, "m"))
            self.assertEqual(given_by(lists(row), "x"), given_by(row, "x"))


class BookTest(unittest.TestCase):
    def test_what_is_kept(self):
        book = Book(1, [[[1, 0], [list(UP)]], ((0, 5), ()), [(), [lists(DOWN), UP]]])
        self.assertEqual((book.hand, book.rows), (1, (((), (DOWN, UP)), ((0, 5), ()), ((1, 0), (UP,)))))
        self.assertEqual(book, Book(1, (((), (DOWN, UP)), ((1, 0), (UP,)), ((0, 5), ()))))
        self.assertNotEqual(book, Book(0, book.rows))
        self.assertNotEqual(book, Book(1, book.rows[1:]))
        self.assertNotEqual(book, (1, book.rows))
        self.assertFalse(book == None)  # noqa: E711
        self.assertEqual(Book(rows=[], hand=0).rows, ())
        rows = [[[0], [lists(UP)]]]
        Book(0, rows)
        self.assertEqual(rows, [[[0], [lists(UP)]]])

    def test_wrong(self):
        for value in [*BAD_NUMBERS, 2, -1, 10 ** 50]:
            self.assertEqual(told(Book, value, None), ("BadNumber", "hand"))
        bad = [None, 5, "x", {}, {(): []}, [None], [()], [((),)], [((), (), ())], [((), None)], [(0, ())],
               [((-1,), ())], [((True,), ())],
               [((1.0,), ())], [("0", ())], [((), ()), ([], ())], [((0, 1), ()), ([0, 1], (UP,))], [((), UP)], Odd(),
               [Odd()], [(Odd(), ())],
               [((), Odd())], [((), [Odd()])]] + [[((), [UP, value])] for value in BAD_ROWS]
        for value in bad:
            self.assertEqual(told(Book, 0, value), ("BadRow", "rows"), value)
        for value in ODD_VALUES:
            if not isinstance(value, (list, tuple)) or len(value) != 0:
                self.assertEqual(told(Book, rows=value, hand=1), ("BadRow", "rows"))

    def test_wrong_claims(self):
        for value in BAD_CLAIMS:
            self.assertEqual(told(book_for, value, None), ("BadClaim", "claim"))
            self.assertEqual(told(written, value, None), ("BadClaim", "claim"))
            self.assertEqual(told(shows_book, value, None, None), ("BadClaim", "claim"))
        for claim in WITHOUT_BOOKS:
            self.assertEqual(told(book_for, claim, 2), ("BadNumber", "hand"))
            self.assertEqual(told(book_for, claim=claim, hand=0), ("Misfit", "claim"))
            self.assertEqual(told(written, claim, ()), ("BadBook", "book"))
            self.assertEqual(told(written, claim, Book(0, [])), ("Misfit", "claim"))
            self.assertEqual(told(shows_book, claim, None, None), ("BadSetting", "setting"))
            self.assertEqual(told(shows_book, claim, {}, None), ("Misfit", "claim"))
        for value in [*ODD_VALUES, Odd(), Book, (0, ())]:
            self.assertEqual(told(written, HALVES, value), ("BadBook", "book"))
            self.assertIs(shows_book(HALVES, {}, value), False)
        for value in BAD_NUMBERS:
            self.assertEqual(told(book_for, HALVES, value), ("BadNumber", "hand"))
        for value in BAD_SETTINGS:
            self.assertEqual(told(shows_book, HALVES, value, None), ("BadSetting", "setting"))
        self.assertEqual(told(shows_book, HALVES[2], {"x": 1}, None), ("NoName", "n"))
        free = ("and", below(0, b=1), ("endless", "x", below(0, a=1)))
        self.assertEqual(told(shows_book, claim=free, setting={"b": 1}, value=None), ("NoName", "a"))


class WrittenTest(unittest.TestCase):
    def test_by_hand(self):
        claim = ("and", below(0, n=1), ("not", ("all", "x", ("some", "y", zero(0, n=1, x=1, y=1)))))
        book = Book(0, [((1, 0), [("at", 1, (0, (("n", 1),)))])])
        found = written(claim, book)
        self.assertTrue(is_claim(found))
        self.assertEqual((found[0], found[1], found[2][0], found[2][1][:2]),
                         ("and", below(0, n=1), "not", ("all", "x")))
        inner = found[2][1][2]
        self.assertEqual((inner[0], inner[2]), ("or", claim[2][1][2]))
        for n, x in ((4, 4), (4, 5), (-1, 0)):
            self.assertEqual(plain_so(inner[1], {"n": n, "x": x}), n != x)
        other = Book(1, [((1, 0, 0), [DOWN, UP])])
        inner = written(claim, other)[2][1][2]
        self.assertEqual((inner[:2], inner[2][0], inner[2][2]), (("some", "y"), "and", claim[2][1][2][2]))
        for n, y in ((4, 2), (5, 3), (5, 2), (4, 3)):
            self.assertEqual(plain_so(inner[2][1], {"n": n, "y": y}), 2 * y in (n, n + 1))
        self.assertEqual(is_so(written(("some", "x", YES), Book(0, [((), [])])), {}), False)
        self.assertEqual(is_so(written(("all", "x", NO), Book(1, [((), [])])), {}), True)
        self.assertEqual(written(("or", YES, below(0, x=1)), Book(1, [])), ("or", YES, below(0, x=1)))

    def test_places_and_names(self):
        claim = ("and", ("some", "x", ("all", "y", below(0, n=1, x=1, y=1))), ("not", ("all", "z", below(0, k=1, z=1))))
        row, other = ("at", 1, (0, (("n", 1),))), ("at", 1, (0, (("k", 1),)))
        for rows in ([((0,), [row]), ((1, 0), [other, row])], [((0,), []), ((1, 0), [])],
                     [((1, 0), [other]), ((0,), [other])]):
            self.assertIsNone(told(written, claim, Book(0, rows)))
        for rows in ([], [((0,), [row])], [((0,), [row]), ((1,), [])], [((0,), [row]), ((1, 0), []), ((0, 0), [])],
                     [((0,), []), ((2, 0), [])],
                     [((0,), [("at", 1, (0, (("x", 1),)))]), ((1, 0), [])],
                     [((0,), [("at", 1, (0, (("y", 1),)))]), ((1, 0), [])],
                     [((0,), [("at", 1, (0, (("z", 1),)))]), ((1, 0), [])],
                     [((0,), []), ((1, 0), [("at", 1, (0, (("x", 1),)))])],
                     [((0,), [row, ("left", 0, 1, ((1, (0, ())), (1, (1, (("q", 1),)))))]), ((1, 0), [])]):
            self.assertEqual(told(written, claim=claim, book=Book(0, rows)), ("Misfit", "book"), rows)
            self.assertIs(shows_book(claim, {"k": 0, "n": 0}, Book(0, rows)), False)
        for names, error in (("n", None), ("k", None), ("x", None), ("y", ("Misfit", "book")),
                             ("z", ("Misfit", "book"))):
            rows = [((0, 0), [("right", 0, 1, ((1, (0, ((names, 1),))),))])]
            self.assertEqual(told(written, claim, Book(1, rows)), error, names)
        self.assertEqual(told(written, claim, Book(1, [((0,), []), ((1, 0), [])])), ("Misfit", "book"))

    def test_what_a_written_claim_says(self):
        luck = chance(211)
        for _ in range(60):
            claim = random_bound(luck, random_tree(luck, [random_literal(luck, "nxy") for _ in range(2)]),
                                 "yx"[:luck.randint(1, 2)], ("some", "all"))
            hand = luck.randint(0, 1)
            rows = []
            for place, name, bound in places_by(claim, hand):
                names = [other for other in {*free_in(claim), *bound} if other != name]
                rows.append((place, [random_row(luck, names) for _ in range(luck.randint(0, 3))]))
            book = Book(hand, rows)
            setting = {name: luck.randint(-9, 9) for name in free_in(claim)}
            is_won = is_so(written(claim, book), setting) == (hand == 0)
            self.assertIs(shows_book(claim, setting, book), is_won)
            self.assertEqual(is_won, wins_by_trial(claim, book, setting, range(-60, 61)), (claim, book.rows, setting))


class BookForTest(unittest.TestCase):
    def check(self, luck, claim):
        settings = [{name: luck.choice((luck.randint(-9, 9), 10 ** 30 + luck.randint(-9, 9)))
                     for name in free_in(claim)}
                    for _ in range(3)]
        for hand in (0, 1):
            book = book_for(claim, hand)
            self.assertEqual(book, book_for(lists(claim), hand))
            self.assertEqual([place for place, _ in book.rows], sorted(place for place, _, _ in places_by(claim, hand)))
            many = sum(len(rows) for _, rows in book.rows)
            if levels_of(claim) < 2:
                self.assertLessEqual(many, 200)
            for setting in settings:
                hand_wins = wins(Duel(claim, setting))
                if levels_of(claim) < 2:
                    self.assertEqual(is_so(written(claim, book), setting), is_so(claim, setting))
                if levels_of(claim) < 2 or many <= 12:
                    self.assertIs(shows_book(claim, setting, book), hand_wins == hand)
                self.play(luck, claim, setting, book, hand_wins)

    def play(self, luck, claim, setting, book, hand_wins):
        """The hand of the book names by it, the other one draws: a hand that can win wins."""
        duel = Duel(claim, setting)
        while duel.kind != "over":
            is_wanted = wins(duel) == duel.turn
            if duel.kind == "part":
                parts = range(len(duel.claim) - 1)
                good = [at for at in parts if is_so(duel.claim[at + 1], duel.setting) == (duel.turn == duel.keeper)]
                duel.move(("part", good[0] if good and duel.turn == book.hand else luck.choice(parts)))
            elif duel.turn == book.hand:
                move = by_book(duel, book)
                self.assertEqual(move, by_book(duel.twin(), book))
                if is_wanted:
                    self.assertIsNotNone(move)
                duel.move(move or ("name", 0))
            else:
                duel.move(("name", luck.choice((luck.randint(-9, 9), luck.choice((-1, 1)) * 10 ** 35))))
        if hand_wins == book.hand:
            self.assertEqual(duel.winner, book.hand)

    def test_one_level(self):
        luck = chance(212)
        for _ in range(60):
            literals = [random_literal(luck, "nxy", ms=(2, 3, 4), factors=(-3, -2, -1, 1, 2, 3))
                        for _ in range(luck.randint(1, 5))]
            claim = random_bound(luck, random_tree(luck, literals), "x", ("some", "all"))
            self.check(luck, random_tree(luck, [claim, random_literal(luck, "ny"),
                                                ("not", random_bound(luck, literals[0], "x", ("all",)))]))

    def test_more_levels(self):
        luck = chance(213)
        for k in range(60):
            names = "yx" if k % 3 else "zyx"
            literals = [random_literal(luck, "n" + names, ("below", "zero")) for _ in range(luck.randint(2, 3))]
            if k % 3 == 1:
                literals[0] = random_literal(luck, "nxy", ("rests",))
            self.check(luck, random_bound(luck, random_tree(luck, literals), names, ("some", "all")))

    def test_many_rests(self):
        luck = chance(214)
        for _ in range(10):
            literals = [random_literal(luck, "klnxy", ("below", "zero", "below"), factors=(-3, 3, 2), span=10 ** 32 - 1,
                                       must="x") for _ in range(6)]
            literals += [random_literal(luck, "klnxy", ("rests",), (12,), (-3, 3, 2, 1), must="x") for _ in range(2)]
            self.check(luck, ("some", "x", random_tree(luck, literals)))
            self.check(luck, ("all", "x", ("or", *literals)))

    def test_numbers_near_and_far(self):
        book = book_for(HALVES, 0)
        for n in (-7, 0, 6, 10 ** 40, 10 ** 40 + 1, -10 ** 40 - 1):
            duel = Duel(HALVES, {})
            duel.move(("name", n))
            self.assertEqual(by_book(duel, book), ("name", (n + 1) // 2))
        self.assertTrue(shows_book(HALVES, {}, book))
        self.assertFalse(shows_book(HALVES, {}, book_for(HALVES, 1)))
        self.assertEqual(book_for(YES, 0), Book(0, []))
        for value in (book, lists(book.rows)):
            self.assertIs(shows_book(HALVES, {}, value), value == book)


class ShownTest(unittest.TestCase):
    def test_bent_books(self):
        luck = chance(215)
        bent = 0
        for _ in range(80):
            claim = random_bound(luck, random_tree(luck,
                                                   [random_literal(luck, "nxy", ("below", "zero")) for _ in range(2)]),
                                                   "yx", ("some", "all"))
            setting = {name: luck.randint(-9, 9) for name in free_in(claim)}
            for hand in (0, 1):
                rows = [(place, list(told)) for place, told in book_for(claim, hand).rows]
                if not rows or not rows[0][1] or sum(len(row) for _, row in rows) > 12:
                    continue
                change = luck.randrange(3)
                if change == 0:
                    rows[0][1].pop(luck.randrange(len(rows[0][1])))
                elif change == 1:
                    rows[0][1][0] = random_row(luck, [name for name in free_in(claim)])
                else:
                    rows[0][1].append(rows[0][1][0])
                book = Book(hand, rows)
                expected = wins_by_trial(claim, book, setting, range(-70, 71))
                self.assertIs(shows_book(claim, setting, book), expected, (claim, hand, rows, setting))
                bent += not expected
                self.assertIs(shows_book(claim, setting, Book(1 - hand, rows)), False)
        self.assertGreater(bent, 10)

    def test_many_rows_at_one_level(self):
        """Rows with any m: at one level the numbers that they give are told at once."""
        luck = chance(216)
        for _ in range(10):
            claim = ("some", "x", random_tree(luck, [random_literal(luck, "nx", ms=(3, 4), must="x")
                                                     for _ in range(4)]))
            rows = [random_row(luck, "n", ms=(7, 11, 10 ** 20, 10 ** 30 + 1), ds=(1, 2, 10 ** 15), span=10 ** 30)
                    for _ in range(200)]
            book = Book(0, [((), rows)])
            for n in (0, 7, 10 ** 30):
                numbers = [number_of(row, {"n": n}) if row[0] == "at" else number_by(row, {"n": n}) for row in rows]
                expected = any(plain_so(claim[2], {"n": n, "x": number}) for number in numbers if number is not None)
                self.assertIs(shows_book(claim, {"n": n}, book), expected)

    def test_great_rests_at_two_levels(self):
        """Nothing counts up to an m or a d that is passed."""
        m, n = 10 ** 30, (0, (("n", 1),))
        for high, is_won in ((m, True), (m - 1, False), (m + 7, True)):
            claim = ("all", "n", ("some", "x", ("and", below(0, n=1, x=-1), below(-high - 1, n=-1, x=1))))
            row = ("right", m - 3, m, ((1, n), (10 ** 15, (-5, (("n", 10 ** 15),)))))
            self.assertIs(shows_book(claim, {}, Book(0, [((0,), [row])])), is_won)
            turned = ("not", ("some", "n", ("all", "x", ("not", claim[2][2]))))
            self.assertIs(shows_book(turned, {}, Book(0, [((0, 0), [("at", 2 * m, (1, (("n", m),))), row])])), is_won)
        claim = ("all", "n", ("some", "x", ("and", below(0, n=-1, x=1), ("not", below(m, n=-1, x=1)))))
        for rest, of, is_won in ((5, m, True), (0, m + 1, False), (0, m - 1, True)):
            self.assertIs(shows_book(claim, {}, Book(0, [((0,), [("left", rest, of, ((1, n),))])])), is_won)
        halves = ("all", "n", ("some", "x", zero(0, n=-1, x=m)))
        self.assertIs(shows_book(halves, {}, Book(0, [((0,), [("at", m, n)])])), False)
        self.assertIs(shows_book(("all", "n", ("some", "x", ("or", ("not", rests(m, 0, n=1)), zero(0, n=-1, x=m)))), {},
                                 Book(0, [((0,), [("at", m, n), ("at", 1, (0, ()))])])), True)

    def test_rows_with_unlike_rests(self):
        claim = ("all", "n", ("some", "x", ("and", below(0, n=1, x=-1), below(-100, n=-1, x=1))))
        n = (0, (("n", 1),))
        for m, is_won in ((97, True), (99, True), (100, False)):
            rows = [("right", 5, m, ((1, n),)), ("at", 7, (3, (("n", 1),))),
                    ("left", 3, 11, ((2, n), (3, (4, (("n", -1),)))))]
            self.assertIs(shows_book(claim, {}, Book(0, [((0,), rows)])), is_won)
        rows = [("at", d, (k, (("n", 1),))) for d, k in ((2, 100), (3, 200), (5, 300), (7, 400), (11, 500), (13, 600))]
        self.assertIs(shows_book(claim, {}, Book(0, [((0,), rows)])), False)


class ByBookTest(unittest.TestCase):
    def test_which_row(self):
        claim = ("some", "x", ("or", zero(-5, x=1), zero(-9, x=1)))
        for numbers, move in (((1, 5, 9), 5), ((9, 5), 9), ((1, 2), 1), ((5,), 5)):
            book = Book(0, [((), [("at", 1, (number, ())) for number in numbers])])
            self.assertEqual(by_book(Duel(claim, {}), book), ("name", move))
        none = ("at", 2, (1, (("n", 2),)))
        duel = Duel(("and", claim, YES), {"n": 4})
        duel.move(("part", 0))
        self.assertIsNone(by_book(duel, Book(0, [((0,), [none, none])])))
        self.assertIsNone(by_book(duel, Book(0, [((0,), [])])))
        self.assertEqual(by_book(duel, Book(0, [((0,), [none, ("at", 1, (3, (("n", 1),)))])])), ("name", 7))
        self.assertEqual(duel.moves, (("part", 0),))

    def test_names_that_are_not_told(self):
        claim = ("some", "x", zero(-5, x=1))
        wanting = ("left", 0, 1, ((1, (0, (("q", 1), ("z", 1)))), (1, (0, (("b", 1), ("m", 1))))))
        five, four = ("at", 1, (5, ())), ("at", 1, (4, ()))
        duel = Duel(claim, {"b": 2})
        self.assertEqual(by_book(duel, Book(0, [((), [five, wanting])])), ("name", 5))
        self.assertEqual(told(by_book, duel, Book(0, [((), [four, wanting, five])])), ("NoName", "m"))
        self.assertEqual(told(by_book, duel, Book(0, [((), [wanting])])), ("NoName", "m"))
        self.assertEqual(told(by_book, Duel(claim, {"b": 1, "m": 2, "q": 3}), Book(0, [((), [wanting])])),
                         ("NoName", "z"))
        told_all = Duel(claim, {"b": 3, "m": 3, "q": 3, "z": 4})
        self.assertEqual(by_book(told_all, Book(0, [((), [wanting])])), ("name", 5))

    def test_names_told_by_moves(self):
        """What the setting told, or a move so far; of a name told more than once the last number."""
        inner = ("some", "x", ("or", zero(-1, x=1), NO))
        row = ("at", 1, (0, (("n", 1),)))
        duel = Duel(("all", "n", inner), {"n": 3})
        duel.move(("name", 8))
        self.assertEqual(by_book(duel, Book(0, [((0,), [row])])), ("name", 8))
        duel = Duel(("and", inner, ("all", "n", NO)), {"n": 3})
        duel.move(("part", 0))
        self.assertEqual(by_book(duel, Book(0, [((0,), [row])])), ("name", 3))
        duel = Duel(("endless", "n", inner), {})
        duel.move(("name", 2))
        self.assertEqual(told(by_book, duel, Book(0, [((0,), [row])])), ("Misfit", "place"))
        duel.move(("name", -4))
        self.assertEqual(by_book(duel, Book(0, [((0,), [row])])), ("name", -4))
        duel = Duel(("count", "zero", (0, ()), ((1, "n", inner),)), {})
        duel.move(("lay", [Layout([(6, 6, 1)])]))
        duel.move(("doubt", 0, 6))
        self.assertEqual(by_book(duel, Book(0, [((0,), [row])])), ("name", 6))

    def test_wrong(self):
        duel = Duel(HALVES, {})
        book = Book(1, [((), [("at", 1, (3, ()))])])
        for value in [*ODD_VALUES, HALVES]:
            self.assertEqual(told(by_book, value, None), ("BadDuel", "duel"))
            self.assertEqual(told(by_book, book=value, duel=duel), ("BadBook", "book"))
        self.assertEqual(by_book(duel, book), ("name", 3))
        self.assertEqual(told(by_book, duel, Book(0, book.rows)), ("Misfit", "place"))
        self.assertEqual(told(by_book, duel, Book(1, [((0,), [UP])])), ("Misfit", "place"))
        self.assertEqual(told(by_book, duel, Book(1, [])), ("Misfit", "place"))
        duel.move(("name", 1))
        self.assertEqual(told(by_book, duel, Book(1, [((0,), [UP])])), ("Misfit", "place"))
        self.assertEqual(by_book(duel, Book(0, [((0,), [UP]), ((7,), [])])), ("name", 1))
        duel.move(("name", 1))
        self.assertEqual(told(by_book, duel, Book(0, [((0, 0), [UP])])), ("Misfit", "place"))
        duel.move(("part", 0))
        self.assertEqual(told(by_book, duel, Book(0, [])), ("Over",))
        self.assertEqual(told(by_book, duel, 1), ("BadBook", "book"))
        for claim in (("endless", "x", YES), ("count", "zero", (0, ()), ((1, "x", NO),)), ("or", YES, NO)):
            self.assertEqual(told(by_book, Duel(claim, {}), Book(0, [((), [])])), ("Misfit", "place"))
            self.assertEqual(told(by_book, Duel(claim, {}), Book(1, [((), [])])), ("Misfit", "place"))


if __name__ == "__main__":
    unittest.main()
