"""Spread claims: of "and", "or" and literals alone, none right within one of its own label.

Literals are as atoms.slim makes them. What is told here of a name or a number put in keeps a claim
spread; yes and no stand in none but by themselves.
"""

from claimduel.atoms import contrary_literal, slim
from claimduel.facts import Facts
from claimduel.marks import mark_in, period_in
from claimduel.rests import rest_of_both
from claimduel.shapes import COMPARISONS, NO, YES, free_names
from claimduel.spanclaims import claim_of_spans
from claimduel.spans import spans_of
from claimduel.sums import factor_in, form_put, form_sum, form_times, rest_without
from claimduel.thinning import DUAL, key_of, packed, parts_for, settled


def joint(label, parts):
    """The "and" or the "or" of spread claims, spread."""
    absorbing, idle = (NO, YES) if label == "and" else (YES, NO)
    found = {}
    for part in parts:
        if part == absorbing:
            return absorbing
        if part != idle:
            for piece in parts_for(label, part):
                found[key_of(piece)] = piece
    unlike = list(found.values())
    if len(unlike) == 1:
        return unlike[0]
    return (label, *unlike) if unlike else idle


def changed(claim, change):
    """The claim with each literal changed by a function that makes it another spread claim."""
    if claim[0] not in DUAL:
        return change(claim)
    parts = []
    for part in claim[1:]:
        parts.append(changed(part, change))
    return joint(claim[0], parts)


def settle(claim):
    """A spread claim that is alike, and mostly shorter."""
    return settled(claim, Facts())


def shorter(claim):
    """A spread claim that is alike: a settled one as it is, but one of one name as short as it can be told."""
    names = free_names(claim)
    if len(names) == 1:
        spans = spans_of(claim, names[0])
        if spans is not None:
            return claim_of_spans(spans, names[0])
    return claim


def told_shortly(claim):
    """A plain claim that is alike to a settled one, to be returned."""
    return packed(shorter(claim))[0][0]


def literals_in(claim):
    """The literals of a claim."""
    found = []
    waiting = [claim]
    while waiting:
        here = waiting.pop()
        if here[0] in DUAL:
            waiting.extend(here[1:])
        else:
            found.append(here)
    return found


def inner_of(literal):
    """The literal without its not."""
    return literal[1] if literal[0] == "not" else literal


def asks_of(literal, name):
    """Whether it is a comparison or a division, not the not of one, with this name."""
    return literal[0] in ("below", "zero", "rests") and factor_in(literal[-1], name) != 0


def is_turning(literal, name):
    """Whether it is a comparison, not the not of one, with this name."""
    return literal[0] in COMPARISONS and factor_in(literal[1], name) != 0


def put_fraction(literal, name, d, form):
    """The literal where the name has form / d, which is an integer there."""
    if literal[0] == "not":
        return contrary_literal(put_fraction(literal[1], name, d, form))
    if not asks_of(literal, name):
        return literal
    old = literal[-1]
    new = form_sum(form_times(rest_without(old, name), d), form_times(form, factor_in(old, name)))
    if literal[0] == "rests":
        return slim(("rests", literal[1] * d, new))
    return slim((literal[0], new))


def put_form(literal, name, form):
    """The literal with a form put in for the name, which may have the name, too."""
    if literal[0] == "not":
        return contrary_literal(put_form(literal[1], name, form))
    if not asks_of(literal, name):
        return literal
    return slim(literal[:-1] + (form_put(literal[-1], name, form),))


def put_rest(literal, name, rest):
    """The literal where the name leaves a rest by the period of its claim; comparisons stay."""
    if inner_of(literal)[0] != "rests":
        return literal
    return put_form(literal, name, (rest, ()))


def put_far(literal, name, side):
    """The literal where the name is far to a side; divisions stay."""
    if literal[0] == "not":
        return contrary_literal(put_far(literal[1], name, side))
    if not is_turning(literal, name):
        return literal
    is_so = literal[0] == "below" and (factor_in(literal[1], name) > 0) == (side == "left")
    return YES if is_so else NO


def by_rest(claim, name, rest):
    """The claim for the numbers that leave the rest by its period, settled."""
    return settle(changed(claim, lambda literal: put_rest(literal, name, rest)))


def known_rest(claim, name):
    """The pair (rest, m) that a claim tells outright of each right number."""
    found = (0, 1)
    for part in parts_for("and", claim):
        if part[0] == "rests" and part[2][1] == ((name, 1),):
            both = rest_of_both(found, (-part[2][0] % part[1], part[1]))
            found = found if both is None else both
    return found


def open_rests(claim, name):
    """Rests by the period of a claim, all that right numbers may leave."""
    start, step = known_rest(claim, name)
    return list(range(start, period_in(claim, name), step))


def far_out(claim, name, side):
    """The claim far to a side, but for its divisions."""
    return changed(claim, lambda literal: put_far(literal, name, side))


def marks_by(claim, name):
    """Pairs of a literal of the claim with a not at it or not, and its mark, for each one that turns."""
    found = []
    for literal in literals_in(claim):
        inner = inner_of(literal)
        if is_turning(inner, name):
            found.append((literal, mark_in(inner[1], name)))
    return found
