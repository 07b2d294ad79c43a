"""The texts of forms and claims [2] [4] [5], written and read."""

import unittest

from claimduel.claim_texts import claim_text, form_text, read_claim, read_form
from claimduel.claims import is_claim
from support import ODD_VALUES, chance, lists, random_claim, random_form, told

NAMES = ("a", "b", "x")
WORDS = {"and", "or", "not", "all", "some", "many", "endless", "yes", "no"}
LETTERS = "abcdefghijklmnopqrstuvwxyz"


def number_of(item):
    """The integer of an item, None for none: a second way to tell it."""
    try:
        number = int(item)
    except ValueError:
        return None
    return number if str(number) == item and len(item.lstrip("-")) <= 60 else None


def named(item):
    return (1 <= len(item) <= 8 and set(item) <= set(LETTERS + "0123456789") and item[0] in LETTERS
            and item not in WORDS)


class Wants:
    """What a text wants next, as a pile of wants: a second way to tell which item cannot stand.

    A want is a pair of a kind and what it knows; each item is taken by the topmost one.
    """

    def __init__(self, *pile):
        self.pile = list(pile)

    def take(self, item):
        """Whether the item can stand."""
        while True:
            if not self.pile:
                return False
            kind, known = self.pile.pop()
            taken = getattr(self, kind)(item, known)
            if taken is not None:
                return taken

    def add(self, *wants):
        self.pile.extend(reversed(wants))
        return True

    def word(self, item, words):
        return item in words

    def name(self, item, around):
        """A name to be bound, and behind it the claim."""
        return named(item) and item not in around and self.add(("word", (":",)), ("claim", around + [item]))

    def claim(self, item, around):
        if len(around) >= 80:
            return False
        if item in ("yes", "no"):
            return True
        if item == "not":
            return self.add(("claim", around + [None]))
        if item in ("all", "some", "endless"):
            return self.add(("name", around))
        if item == "(":
            return self.add(("claim", around + [None]), ("joiner", around))
        number = number_of(item)
        return number is not None and self.add(("number", (number, "", 0, around, True)))

    def joiner(self, item, around):
        return item in ("and", "or") and self.add(("claim", around + [None]), ("more", (item, around)))

    def more(self, item, known):
        label, around = known
        if item == ")":
            return True
        return item == label and self.add(("claim", around + [None]), ("more", known))

    def number(self, item, known):
        """Behind an integer of a comparison."""
        number, last, rows, around, is_first = known
        if item in ("<", "="):
            return self.add(("word", ("0",)))
        if is_first and item == "|":
            return number >= 2 and self.add(("constant", ""))
        if number == 0:
            return False
        if item == "[":
            return rows < 4 and self.add(("word", ("many",)), ("name", around), ("word", ("]",)), ("word", ("+",)),
                                         ("integer", (last, rows + 1, around)))
        return (rows == 0 and named(item) and item > last
                and self.add(("word", ("+",)), ("integer", (item, 0, around))))

    def integer(self, item, known):
        number = number_of(item)
        return number is not None and self.add(("number", (number, *known, False)))

    def constant(self, item, last):
        """An integer of a form that no comparison follows."""
        number = number_of(item)
        return number is not None and self.add(("maybe", (number, last)))

    def maybe(self, item, known):
        """Behind an integer of such a form: None if the item belongs to what is behind the form."""
        number, last = known
        if number != 0 and named(item) and item > last:
            return self.add(("word", ("+",)), ("constant", item))
        return None

    def is_done(self):
        return all(kind == "maybe" for kind, _ in self.pile)


def first_wrong(text, want):
    """The index of the first item that cannot stand, or how many there are if one is missing; None if right."""
    wants = Wants((want, [] if want == "claim" else ""))
    items = text.split(" ")
    for at, item in enumerate(items):
        if not wants.take(item):
            return at
    return None if wants.is_done() else len(items)


def bent(luck, text):
    """Texts near this one."""
    items = text.split(" ")
    at = luck.randrange(len(items))
    stock = ["0", "1", "-1", "-0", "01", "+1", "2", "x", "a", "b", "k", "", "<", "=", "|", ":", "+", "(", ")", "[",
             "]", "and", "or", "not", "all", "some", "many", "endless", "yes", "no", "x y", "X", "9" * 60, "9" * 61]
    other = luck.choice(stock)
    return [
        " ".join(items[:at] + items[at + 1:]), " ".join(items[:at] + [items[at]] + items[at:]),
        " ".join(items[:at] + [other] + items[at + 1:]), " ".join(items[:at] + [other] + items[at:]),
        " ".join(items[:at]), text + " " + other, text + " ", " " + text, text.replace(" ", "  ", 1),
        " ".join(items[:at] + items[at + 1:at + 2] + [items[at]] + items[at + 2:]), " ".join(items[at:]),
    ]


class FormTextsTest(unittest.TestCase):
    def test_there_and_back(self):
        luck = chance(6)
        for _ in range(200):
            form = random_form(luck, NAMES)
            text = form_text(form)
            self.assertEqual(text, " ".join([*(f"{factor} {name} +" for name, factor in form[1]), str(form[0])]))
            self.assertEqual((form_text(lists(form)), read_form(text)), (text, form))

    def test_bent_ones(self):
        luck = chance(7)
        for _ in range(200):
            text = form_text(random_form(luck, NAMES))
            for other in bent(luck, text):
                at = first_wrong(other, "constant")
                if at is None:
                    self.assertEqual(form_text(read_form(other)), other)
                else:
                    self.assertEqual(told(read_form, other), ("BadText", 0, at), other)

    def test_single_items(self):
        for text, at in (
                ("", 0), (" ", 0), ("1 ", 1), ("x", 0), ("1 x", 2), ("1 x +", 3), ("1 x + y", 3), ("1 x 2", 2),
                ("2 y + 1 x + 0", 4), ("1 x + 1 x + 0", 4), ("0 x + 1", 1), ("1 x + 0 y + 1", 4), ("1 x + 0 y", 4),
                ("+1", 0), ("01", 0), ("-0", 0), ("-", 0), ("--1", 0), ("1_0", 0), ("1.0", 0), ("\uff11", 0), ("\u0661", 0),
                ("1\n", 0), ("\t1", 0), ("00", 0), ("-01", 0), ("1 x + -0", 3), ("1 some + 0", 1), ("1 X + 0", 1),
                ("1 abcdefghi + 0", 1), ("1 x + 2 = 0", 4), ("1 x + 2 | 1", 4), ("9" * 61, 0), ("-" + "9" * 61, 0),
                ("1 x + " + "9" * 61, 3), ("1 x ++ 2", 2), ("1 x  + 2", 2), ("1 x + 2 y + 3 z", 8), ("-1 -1", 1)):
            self.assertEqual(told(read_form, text), ("BadText", 0, at), text)
            self.assertEqual(first_wrong(text, "constant"), at, text)

    def test_long_integers(self):
        most = int("9" * 60)
        form = (-most, (("x", most),))
        self.assertEqual(read_form(form_text(form)), form)
        self.assertEqual(read_form("-" + "9" * 60), (-most, ()))


class ClaimTextsTest(unittest.TestCase):
    def test_each_kind(self):
        for text, claim in (
                ("yes", ("yes",)), ("no", ("no",)), ("1 x + 0 < 0", ("below", (0, (("x", 1),)))),
                ("-3 = 0", ("zero", (-3, ()))), ("2 | 0", ("rests", 2, (0, ()))),
                ("12 | 1 a + -2 b + 7", ("rests", 12, (7, (("a", 1), ("b", -2))))), ("not yes", ("not", ("yes",))),
                ("( yes and no )", ("and", ("yes",), ("no",))), ("( yes or no or yes )", ("or", ("yes",), ("no",), ("yes",))),
                ("all x : yes", ("all", "x", ("yes",))), ("some x1 : not no", ("some", "x1", ("not", ("no",)))),
                ("endless z : 1 z + 0 < 0", ("endless", "z", ("below", (0, (("z", 1),))))),
                ("3 x + 2 [ many y : yes ] + -4 = 0", ("count", "zero", (-4, (("x", 3),)), ((2, "y", ("yes",)),))),
                ("-1 [ many y : 5 | 1 y + 0 ] + 1 [ many y : no ] + 0 < 0",
                 ("count", "below", (0, ()), ((-1, "y", ("rests", 5, (0, (("y", 1),)))), (1, "y", ("no",))))),
                ("all x : ( some y : yes or all y : no )",
                 ("all", "x", ("or", ("some", "y", ("yes",)), ("all", "y", ("no",)))))):
            self.assertTrue(is_claim(claim))
            self.assertEqual((claim_text(claim), claim_text(lists(claim)), read_claim(text)), (text, text, claim))

    def test_there_and_back(self):
        luck = chance(8)
        for _ in range(300):
            claim = random_claim(luck, NAMES, 3)
            self.assertEqual(read_claim(claim_text(claim)), claim)
            self.assertIsNone(first_wrong(claim_text(claim), "claim"))

    def test_bent_ones(self):
        luck = chance(9)
        for _ in range(500):
            text = claim_text(random_claim(luck, NAMES, luck.randint(0, 3)))
            for other in bent(luck, text):
                at = first_wrong(other, "claim")
                if at is None:
                    self.assertEqual(claim_text(read_claim(other)), other)
                else:
                    self.assertEqual(told(read_claim, other), ("BadText", 0, at), other)

    def test_each_item_of_one_text(self):
        text = ("some x : ( not 2 | 1 x + 0 and 1 n + 2 [ many y : ( -1 y + 0 < 0 or 3 x + 1 y + 4 = 0 ) ] + -1 [ many y : "
                "yes ] + 5 < 0 and endless z : no )")
        items = text.split(" ")
        self.assertEqual(claim_text(read_claim(text)), text)
        for at in range(len(items)):
            self.assertEqual(told(read_claim, " ".join(items[:at] or [""])), ("BadText", 0, at), at)
            for other in ("", "X", ".", "many", "9" * 61, "and ", "(", ")", "-0"):
                changed = " ".join(items[:at] + [other] + items[at + 1:])
                if items[at] != other:
                    expected = first_wrong(changed, "claim")
                    self.assertEqual(told(read_claim, changed), None if expected is None else ("BadText", 0, expected))
        for more in ("", "yes", "0", "and", ")", "<"):
            self.assertEqual(told(read_claim, text + " " + more), ("BadText", 0, len(items)))

    def test_single_items(self):
        for text, at in (
                ("", 0), ("x", 0), ("yes ", 1), ("yes yes", 1), ("many", 0), ("and", 0), (")", 0), ("not", 1),
                ("1", 1), ("1 |", 1), ("0 | 1", 1), ("-2 | 1", 1), ("2 |", 2), ("2 | x", 2), ("2 | 1 x + 0 < 0", 6),
                ("2 | 0 x", 3), ("2 | 1 y + 1 x + 0", 6), ("2 | 1 [", 3), ("2 | 3 | 4", 3), ("1 x + 2 | 1", 4),
                ("1 x + 0 < 1", 5), ("1 x + 0 < -0", 5), ("1 x + 0 > 0", 4), ("1 x + 0 <", 5), ("1 x + 0", 4),
                ("0 x + 0 < 0", 1), ("0 [ many x : yes ] + 0 = 0", 1), ("1 [ some x : yes ] + 0 = 0", 2),
                ("1 [ many 1 : yes ] + 0 = 0", 3), ("1 [ many x yes ] + 0 = 0", 4), ("1 [ many x : yes ) + 0 = 0", 6),
                ("1 [ many x : yes ] 0 = 0", 7), ("1 [ many x : yes ] + = 0", 8), ("1 [ many x : yes ] + 1 x + 0 = 0", 9),
                ("all x : 1 [ many x : yes ] + 0 = 0", 6), ("( yes )", 2), ("( yes", 2), ("( yes and", 3), ("( )", 1),
                ("( yes and no", 4), ("( yes and no or yes )", 4), ("( yes and no ) )", 5), ("( yes , no )", 2),
                ("all", 1), ("all x", 2), ("all x yes", 2), ("all 1 : yes", 1), ("all many : yes", 1), ("all x :", 3),
                ("all x : some x : yes", 4), ("all x : ( yes and not endless x : yes )", 8), ("3 x + yes", 3),
                ("1 x + 1 = 0 = 0", 6), ("not 1", 2), ("3 x < 0", 2), ("( 2 | 1 x + 0 and 2 | 1 y + 3 or yes )", 14)):
            self.assertEqual(told(read_claim, text), ("BadText", 0, at), text)
            self.assertEqual(first_wrong(text, "claim"), at, text)

    def test_four_rows_at_most(self):
        row = "1 [ many x : yes ] + "
        for many in range(1, 5):
            self.assertEqual(len(read_claim(row * many + "0 = 0")[3]), many)
        self.assertEqual(told(read_claim, row * 5 + "0 = 0"), ("BadText", 0, 33))

    def test_eighty_claims_one_within_the_other(self):
        def name(k):
            return LETTERS[k % 26] + str(k // 26)

        for begin, items, end in (
                (lambda k: "not ", 1, ""), (lambda k: "( yes and ", 3, " )"), (lambda k: "( ", 1, " or no )"),
                (lambda k: f"all {name(k)} : ", 3, ""), (lambda k: f"1 [ many {name(k)} : ", 5, " ] + 0 = 0")):
            head = "".join(begin(k) for k in range(79))
            text = head + "yes" + end * 79
            claim = read_claim(text)
            self.assertTrue(is_claim(claim))
            self.assertEqual((claim_text(claim), claim_text(lists(claim))), (text, text))
            below = head + begin(79) + "yes" + end * 80
            at = items * 80 if items != 3 or begin(0)[0] != "(" else 3 * 79 + 1
            self.assertEqual(told(read_claim, below), ("BadText", 0, at))
            self.assertEqual(first_wrong(below, "claim"), at)
            self.assertEqual(told(read_claim, head + begin(79)[:-1]), ("BadText", 0, at))
        self.assertEqual(told(read_claim, "not " * 7000 + "yes"), ("BadText", 0, 80))
        self.assertEqual(told(read_claim, "( " * 14000 + "yes"), ("BadText", 0, 80))

    def test_long_texts(self):
        text = "( " + " or ".join(f"{k} x + -1 y + {k * k} < 0" for k in range(1, 1200)) + " )"
        self.assertGreater(len(text), 25000)
        self.assertEqual(claim_text(read_claim(text)), text)
        self.assertEqual(told(read_claim, text[:-2]), ("BadText", 0, len(text.split(" ")) - 1))
        most = "9" * 60
        text = f"{most} | -{most} x + {most}"
        self.assertEqual(claim_text(read_claim(text)), text)
        self.assertEqual(told(read_claim, "1" + text), ("BadText", 0, 0))


class ErrorsTest(unittest.TestCase):
    def test_no_strings(self):
        for value in ODD_VALUES:
            if not isinstance(value, str):
                self.assertEqual(told(read_form, value), ("BadText", 0, 0))
                self.assertEqual(told(read_claim, text=value), ("BadText", 0, 0))
            self.assertEqual(told(form_text, value), ("BadForm", "form"))
            self.assertEqual(told(claim_text, value), ("BadClaim", "claim"))

    def test_what_is_passed_stays(self):
        claim = ["and", ["yes"], ["count", "zero", [0, [["x", 1]]], [[1, "y", ["no"]]]]]
        claim_text(claim)
        self.assertEqual(claim, ["and", ["yes"], ["count", "zero", [0, [["x", 1]]], [[1, "y", ["no"]]]]])


if __name__ == "__main__":
    unittest.main()
