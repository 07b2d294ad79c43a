"""Moves of a duel: who can win, and by which move."""

from claimduel.doubting import false_at
from claimduel.duels import is_kept_by, need_duel
from claimduel.errors import Over
from claimduel.layouts import Layout, layout_of
from claimduel.marks import marks_in
from claimduel.plainly import is_so_by, right_in
from claimduel.seeking import some_number
from claimduel.spanclaims import below_claim, from_claim
from claimduel.spreads import joint, settle


def right_numbers(duel, index, wanted):
    """The name of a bound part of what is left, and a claim that says which numbers make it so, or not so."""
    if duel.claim[0] == "count":
        _, name, part = duel.claim[3][index]
    else:
        _, name, part = duel.claim
    return name, right_in(part, name, dict(duel.setting), wanted)


def false_layout(duel):
    """The index of a laid layout that is false, and a number that tells it; None if all are right."""
    for index, layout in enumerate(duel.laid):
        name, right = right_numbers(duel, index, True)
        number = false_at(layout, right, name)
        if number is not None:
            return index, number
    return None


def number_beyond(duel):
    """A right number at least as far from 0 as the bound; None if there is none."""
    name, right = right_numbers(duel, 0, True)
    far = abs(duel.bound)
    if far > 0:
        outside = joint("or", [below_claim(1 - far, name), from_claim(far, name)])
        right = settle(joint("and", [right, outside]))
    return some_number(right, name)


def bound_beyond(duel):
    """A bound beyond all right numbers, if they are finitely many: none of these is beyond all marks."""
    name, right = right_numbers(duel, 0, True)
    return max([abs(form[0]) // d for d, form in marks_in(right, name)], default=-1) + 1


def is_kept(duel):
    """Whether the keeper can win a duel that is not over."""
    if duel.laid is not None:
        return is_kept_by(duel.claim, dict(duel.setting), duel.laid) and false_layout(duel) is None
    if duel.bound is not None:
        return number_beyond(duel) is not None
    return is_so_by(duel.claim, dict(duel.setting))


def wins(duel):
    need_duel(duel, "duel")
    if duel.kind == "over":
        return duel.winner
    return duel.keeper if is_kept(duel) else 1 - duel.keeper


def best_part(duel):
    is_wanted = duel.turn == duel.keeper
    for index, part in enumerate(duel.claim[1:]):
        if is_so_by(part, dict(duel.setting)) == is_wanted:
            return ("part", index)
    return ("part", 0)


def best_name(duel):
    if duel.claim[0] == "endless":
        number = bound_beyond(duel) if duel.bound is None else number_beyond(duel)
    else:
        name, right = right_numbers(duel, 0, duel.turn == duel.keeper)
        number = some_number(right, name)
    return ("name", 0 if number is None else number)


def best_lay(duel):
    rows = duel.claim[3]
    if not is_kept(duel):
        return ("lay", tuple([Layout(()) for _ in rows]))
    layouts = []
    for index in range(len(rows)):
        name, right = right_numbers(duel, index, True)
        layouts.append(layout_of(right, name))
    return ("lay", tuple(layouts))


def best_doubt(duel):
    if not is_kept_by(duel.claim, dict(duel.setting), duel.laid):
        return ("take",)
    found = false_layout(duel)
    return ("take",) if found is None else ("doubt", *found)


def best(duel):
    need_duel(duel, "duel")
    if duel.kind == "over":
        raise Over()
    if duel.kind == "part":
        return best_part(duel)
    if duel.kind == "name":
        return best_name(duel)
    return best_lay(duel) if duel.kind == "lay" else best_doubt(duel)
