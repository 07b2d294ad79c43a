"""Books in claims: where a hand names numbers, what its rows say there, and whether it wins by them.

Claims here have no count comparisons and no endless.
"""

from claimduel.atoms import slim
from claimduel.plainly import form_by, plain_in, turned_unless, with_numbers
from claimduel.rows import names_in_row, told_by_row
from claimduel.shapes import NO, YES, free_names, joined, parts_of
from claimduel.spreads import joint, settle, shorter
from claimduel.striking import at_point, strike_all
from claimduel.sums import form_sum, form_times
from claimduel.thinning import DUAL


def above_mark(name, mark, by):
    """The form that is below 0 if the name and by, added, are below a mark; 0 if they are at it."""
    d, form = mark
    return form_sum((by * d, ((name, d),)), form_times(form, -1))


def claim_by_row(row, name):
    """As given_by, for a row without the name."""
    if row[0] == "at":
        return ("zero", above_mark(name, row[1:], 0))
    side, rest, m, marks = row
    if not marks:
        return ("zero", (-rest, ((name, 1),)))
    leaves = [("rests", m, (-rest, ((name, 1),)))] if m > 1 else []
    if side == "left":
        within = [("below", above_mark(name, mark, 0)) for mark in marks]
        beyond = [("not", ("below", above_mark(name, mark, m))) for mark in marks]
    else:
        within = [("below", form_times(above_mark(name, mark, 0), -1)) for mark in marks]
        beyond = [("not", ("below", form_times(above_mark(name, mark, -m), -1))) for mark in marks]
    return joined("and", leaves + within + [joined("or", beyond)])


def naming_places(claim, hand):
    """Triples (place, claim, names bound around) of each place where the hand names the number."""
    found = []
    waiting = [(claim, 0, (), ())]
    while waiting:
        here, keeper, place, bound = waiting.pop()
        if (here[0] == "some" and keeper == hand) or (here[0] == "all" and keeper != hand):
            found.append((place, here, bound))
        within = 1 - keeper if here[0] == "not" else keeper
        for index, (part, name) in enumerate(parts_of(here)):
            around = bound if name is None else bound + (name,)
            waiting.append((part, within, place + (index,), around))
    return found


def is_fitting(claim, hand, rows):
    """Whether the rows of a book of the hand are for just its places, and have no names but those told there."""
    table, names = dict(rows), free_names(claim)
    places = naming_places(claim, hand)
    if sorted(table) != sorted([place for place, _, _ in places]):
        return False
    for place, here, bound in places:
        used = [name for row in table[place] for name in names_in_row(row)]
        if here[1] in used or not all([name in names or name in bound for name in used]):
            return False
    return True


def row_by(row, table):
    """The row with the numbers put in that a dict tells, equal marks once."""
    if row[0] == "at":
        return ("at", row[1], form_by(row[2], table))
    side, rest, m, marks = row
    return (side, rest, m, tuple(sorted({(d, form_by(form, table)): True for d, form in marks})))


def is_outer(mark, marks, side):
    """A claim that says that the mark is that which counts for a row of this side."""
    sign = 1 if side == "left" else -1
    parts = []
    for d, form in marks:
        apart = form_sum(form_times(mark[1], sign * d), form_times(form, -sign * mark[0]))
        parts.append(slim(("below", (apart[0] - 1, apart[1]))))
    return joint("and", parts)


def put_side(claim, name, row):
    """A claim where the name has the number that a row ("left", ..) or ("right", ..) gives, settled."""
    side, rest, m, marks = row
    sign = 1 if side == "left" else -1
    found = []
    for mark in marks:
        outer = is_outer(mark, marks, side)
        if outer == NO:
            continue
        d, form = mark
        for by in range(1, d * m + 1):
            # The number is form / d less by / d: the nearest one that leaves the rest.
            near = (form[0] - sign * by, form[1])
            leaves = slim(("rests", d * m, (near[0] - d * rest, near[1]))) if d * m > 1 else YES
            if leaves != NO:
                found.append(settle(joint("and", [outer, leaves, at_point(claim, name, d, near)])))
    found = joint("or", found)
    # Of one name the many cases of rests are told much shorter together.
    return shorter(found if len(free_names(found)) == 1 else settle(found))


def put_row(claim, name, row):
    """A settled claim where the name has the number that a row gives; it is not so where the row gives none."""
    if row[0] == "at":
        return at_point(claim, name, row[1], row[2])
    if not names_in_row(row):
        return at_point(claim, name, 1, (told_by_row(row, {}), ()))
    return put_side(claim, name, row)


def booked(claim, wanted, place, table):
    """As plain_in, for the claim that stands at a place, with the rows of a dict by places written in."""
    if not any([other[:len(place)] == place for other in table]):
        return plain_in(claim, wanted)
    label = claim[0]
    if label == "not":
        return booked(claim[1], not wanted, place + (0,), table)
    if label in DUAL:
        parts = []
        for index, part in enumerate(claim[1:]):
            parts.append(booked(part, wanted, place + (index,), table))
        return settle(joint(label if wanted else DUAL[label], parts))
    _, name, part = claim
    # All are so exactly if it is not so that some are not.
    inner = booked(part, label == "some", place + (0,), table)
    if place in table:
        found = shorter(settle(joint("or", [put_row(inner, name, row) for row in table[place]])))
    else:
        found = strike_all(inner, [name])
    return turned_unless(wanted == (label == "some"), found)


def wins_all(claim, hand, rows, table):
    """Whether a book of the hand, which can be written into the claim, wins at a setting told by a dict."""
    told = {}
    entries = dict(rows)
    for place, _, bound in naming_places(claim, hand):
        known = {name: table[name] for name in table if name not in bound}
        told[place] = [row_by(row, known) for row in entries[place]]
    return booked(with_numbers(claim, table), hand == 0, (), told) == YES
