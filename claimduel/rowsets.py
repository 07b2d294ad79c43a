"""Rows that are enough: where some number is right for a name, one of theirs is.

For the numbers that leave one rest by the period a claim is alike to one without divisions of the
name, spread. From a right number go down by steps of the period, as long as all are right. If this
has no end, a number below all marks is right. Otherwise some literal turns to be so at the last
one, x: a "zero" has its mark at x; what bounds from below, and the not of a "zero", has it from
the step below x on, but below x, so x is the least number above this mark that leaves the rest.
Going up it is likewise.
"""

from claimduel.marks import mark_in, marks_in, period_in
from claimduel.rests import rest_of_both
from claimduel.shapes import COMPARISONS, NO, YES, rebuilt
from claimduel.sums import factor_in, form_put
from claimduel.thinning import settled_whole

OPPOSITE = {"left": "right", "right": "left"}


def literals_of(claim):
    """The literals of a spread claim."""
    found = []
    waiting = [claim]
    while waiting:
        here = waiting.pop()
        if here[0] in ("and", "or"):
            waiting.extend(here[1:])
        else:
            found.append(here)
    return found


def is_far(comparison, factor, side):
    """Whether a comparison is so far to a side, by the factor of the name, which is not 0."""
    return comparison[0] == "below" and (factor > 0) == (side == "left")


def literal_at(literal, name, rest, side):
    """The literal where the name leaves the rest by the period; far to a side if one is told."""
    if literal[0] == "not":
        return ("not", literal_at(literal[1], name, rest, side))
    if literal[0] == "rests":
        return rebuilt(literal, form_put(literal[2], name, (rest, ())), ())
    if side is None or literal[0] not in COMPARISONS or factor_in(literal[1], name) == 0:
        return literal
    return YES if is_far(literal, factor_in(literal[1], name), side) else NO


def claim_at(claim, name, rest, side):
    """A spread claim where the name leaves the rest by the period; far to a side if one is told."""
    if claim[0] not in ("and", "or"):
        return literal_at(claim, name, rest, side)
    parts = []
    for part in claim[1:]:
        parts.append(claim_at(part, name, rest, side))
    return rebuilt(claim, None, parts)


def turning_marks(claim, name, side):
    """The marks behind which a spread claim without divisions may turn to be so, coming from a side."""
    marks = {}
    for literal in literals_of(claim):
        inner = literal[1] if literal[0] == "not" else literal
        factor = factor_in(inner[1], name) if inner[0] in COMPARISONS else 0
        if factor != 0 and (literal[0] == "not" or inner[0] == "below"):
            if literal[0] == "not" or not is_far(inner, factor, side):
                marks[mark_in(inner[1], name)] = True
    return sorted(marks)


def marks_met(claim, name):
    """The marks of what a spread claim says is zero."""
    marks = {}
    for literal in literals_of(claim):
        if literal[0] == "zero" and factor_in(literal[1], name) != 0:
            marks[mark_in(literal[1], name)] = True
    return sorted(marks)


def known_rest(claim, name):
    """The pair (rest, m) that a spread claim tells outright of each right number."""
    found = (0, 1)
    for part in claim[1:] if claim[0] == "and" else (claim,):
        if part[0] == "rests" and part[2][1] == ((name, 1),):
            found = rest_of_both(found, (-part[2][0] % part[1], part[1]))
    return found


def rows_at(less, name, rest, period):
    """Rows that are enough among the numbers that leave the rest, and whether one of them always is right.

    For these numbers the claim is alike to this one, which has no division of the name.
    """
    marks = marks_in(less, name)
    options = []
    for side in OPPOSITE:
        rows = []
        far = settled_whole(claim_at(less, name, rest, side))
        if far != NO:
            rows.append((side, rest, period, marks))
        if far == YES:
            return rows, True
        for mark in turning_marks(less, name, side):
            rows.append((OPPOSITE[side], rest, period, (mark,)))
        options.append(rows)
    rows = [("at", d, form) for d, form in marks_met(less, name)]
    return rows + min(options, key=len), False


def rows_of(plain, name):
    """As rows_for, for what is known to be a plain claim of tuples, and a name."""
    claim = settled_whole(plain)
    period = period_in(claim, name)
    start, step = known_rest(claim, name)
    rows = {}
    for rest in range(start, period, step):
        less = settled_whole(claim_at(claim, name, rest, None))
        found, is_sure = rows_at(less, name, rest, period)
        if is_sure:
            return tuple(found)
        for row in found:
            rows[row] = True
    return tuple(rows)
