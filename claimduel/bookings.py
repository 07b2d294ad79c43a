"""Books in claims: where a hand names numbers, what its rows say there, and whether it wins by them.

Claims here have no count comparisons and no endless.
"""

from claimduel.atoms import contrary_literal, slim
from claimduel.plainly import form_by, with_numbers
from claimduel.rows import names_in_row, told_by_row
from claimduel.settings import right_setting
from claimduel.shapes import YES, free_names, joined, parts_of
from claimduel.spreads import changed, joint, put_form, settle
from claimduel.striking import at_point
from claimduel.sums import form_sum, form_times
from claimduel.thinning import DUAL, settled_whole


def above_mark(name, mark, by):
    """The form that is below 0 if the name and by, added, are below a mark; 0 if they are at it."""
    d, form = mark
    return form_sum((by * d, ((name, d),)), form_times(form, -1))


def claim_by_row(row, name):
    """As given_by, for a row without the name."""
    if row[0] == "at":
        return ("zero", above_mark(name, row[1:], 0))
    side, rest, m, marks = row
    if not marks:
        return ("zero", (-rest, ((name, 1),)))
    leaves = [("rests", m, (-rest, ((name, 1),)))] if m > 1 else []
    if side == "left":
        within = [("below", above_mark(name, mark, 0)) for mark in marks]
        beyond = [("not", ("below", above_mark(name, mark, m))) for mark in marks]
    else:
        within = [("below", form_times(above_mark(name, mark, 0), -1)) for mark in marks]
        beyond = [("not", ("below", form_times(above_mark(name, mark, -m), -1))) for mark in marks]
    return joined("and", leaves + within + [joined("or", beyond)])


def naming_places(claim, hand):
    """Triples (place, claim, names bound around) of each place where the hand names the number."""
    found = []
    waiting = [(claim, 0, (), ())]
    while waiting:
        here, keeper, place, bound = waiting.pop()
        if (here[0] == "some" and keeper == hand) or (here[0] == "all" and keeper != hand):
            found.append((place, here, bound))
        within = 1 - keeper if here[0] == "not" else keeper
        for index, (part, name) in enumerate(parts_of(here)):
            around = bound if name is None else bound + (name,)
            waiting.append((part, within, place + (index,), around))
    return found


def is_fitting(claim, hand, rows):
    """Whether the rows of a book of the hand are for just its places, and have no names but those told there."""
    table, names = dict(rows), free_names(claim)
    places = naming_places(claim, hand)
    if sorted(table) != sorted([place for place, _, _ in places]):
        return False
    for place, here, bound in places:
        used = [name for row in table[place] for name in names_in_row(row)]
        if here[1] in used or not all([name in names or name in bound for name in used]):
            return False
    return True


def row_by(row, table):
    """The row with the numbers put in that a dict tells, equal marks once."""
    if row[0] == "at":
        return ("at", row[1], form_by(row[2], table))
    side, rest, m, marks = row
    return (side, rest, m, tuple(sorted({(d, form_by(form, table)): True for d, form in marks})))


def renamed(claim, name, other):
    """A spread claim with another name in the place of a name."""
    form = (0, ((other, 1),))
    return changed(claim, lambda literal: put_form(literal, name, form))


class Losing:
    """Claims that say that a hand loses by its book, for some numbers that the other hand names.

    The names of these are exchanged for such as stand nowhere else: each may be told for itself.
    """

    def __init__(self, table):
        # The rows by their places.
        self.table = table
        self.used = 0

    def fresh(self):
        """What is no name, nor one that numbers are found by, and was not used."""
        self.used += 1
        return f".{self.used}"

    def loss(self, claim, keeps, place):
        """What says so of the claim that stands at a place, if the hand keeps it, or doubts it."""
        label = claim[0]
        if label == "not":
            return self.loss(claim[1], not keeps, place + (0,))
        if label in DUAL:
            parts = []
            for index, part in enumerate(claim[1:]):
                parts.append(self.loss(part, keeps, place + (index,)))
            return settle(joint("and" if (label == "or") == keeps else "or", parts))
        if label not in ("some", "all"):
            return contrary_literal(slim(claim)) if keeps else slim(claim)
        _, name, part = claim
        if (label == "some") == keeps:
            return self.named(name, part, keeps, place)
        return renamed(self.loss(part, keeps, place + (0,)), name, self.fresh())

    def named(self, name, part, keeps, place):
        """What says so where the hand names a number for the name: that it loses by each row."""
        found, used = [], self.used
        inner = self.loss(part, keeps, place + (0,))
        is_shared = self.used == used
        for row in self.table[place]:
            found.append(self.by_row(inner, name, row))
            if not is_shared:
                # Behind each number the other hand may name others.
                inner = self.loss(part, keeps, place + (0,))
        return settle(joint("and", found))

    def by_row(self, inner, name, row):
        """What says so if the name has the number of the row, or has none by it; inner says it of the name."""
        if row[0] == "at":
            divides = slim(("rests", row[1], row[2])) if row[1] > 1 else YES
            return settle(joint("or", [contrary_literal(divides), at_point(inner, name, row[1], row[2])]))
        if not names_in_row(row):
            return at_point(inner, name, 1, (told_by_row(row, {}), ()))
        other = self.fresh()
        return settle(joint("and", [settled_whole(claim_by_row(row, other)), renamed(inner, name, other)]))


def wins_all(claim, hand, rows, table):
    """Whether a book of the hand, which can be written into the claim, wins at a setting told by a dict."""
    told = {}
    entries = dict(rows)
    for place, _, bound in naming_places(claim, hand):
        known = {name: table[name] for name in table if name not in bound}
        told[place] = [row_by(row, known) for row in entries[place]]
    losing = Losing(told).loss(with_numbers(claim, table), hand == 0, ())
    return right_setting(losing, free_names(losing)) is None
