"""Rows that are enough: where some number is right for a name, one of theirs is.

For the numbers that leave one rest by the period a claim is alike to one without divisions of the
name, spread. From a right number go down by steps of the period, as long as all are right. If this
has no end, a number below all marks is right. Otherwise some literal turns to be so at the last
one, x: a "zero" has its mark at x; what bounds from below, and the not of a "zero", has it from
the step below x on, but below x, so x is the least number above this mark that leaves the rest.
Going up it is likewise.
"""

from claimduel.marks import marks_in, period_in
from claimduel.seeking import some_number
from claimduel.shapes import NO, YES, free_names
from claimduel.spreads import by_rest, far_out, inner_of, marks_by, open_rests, settle
from claimduel.striking import SIDES
from claimduel.sums import factor_in
from claimduel.thinning import settled_whole

OPPOSITE = {"left": "right", "right": "left"}


def turning_marks(claim, name, side):
    """The marks behind which a spread claim without divisions may turn to be so, coming from a side."""
    marks = {}
    for literal, mark in marks_by(claim, name):
        factor = factor_in(inner_of(literal)[1], name)
        if literal[0] == "not" or (literal[0] == "below" and (factor > 0) != (side == "left")):
            marks[mark] = True
    return sorted(marks)


def marks_met(claim, name):
    """The marks of what a spread claim says is zero."""
    return sorted({mark: True for literal, mark in marks_by(claim, name) if literal[0] == "zero"})


def rows_at(less, name, rest, period):
    """Rows that are enough among the numbers that leave the rest, and whether one of them always is right.

    For these numbers the claim is alike to this one, which has no division of the name.
    """
    marks = marks_in(less, name)
    options = []
    for side in SIDES:
        rows = []
        far = settle(far_out(less, name, side))
        if far != NO:
            rows.append((side, rest, period, marks))
        if far == YES:
            return rows, True
        for mark in turning_marks(less, name, side):
            rows.append((OPPOSITE[side], rest, period, (mark,)))
        options.append(rows)
    rows = [("at", d, form) for d, form in marks_met(less, name)]
    return rows + min(options, key=len), False


def rows_of(plain, name):
    """As rows_for, for what is known to be a plain claim of tuples, and a name."""
    claim = settled_whole(plain)
    if free_names(claim) == (name,):
        number = some_number(claim, name)
        return () if number is None else (("at", 1, (number, ())),)
    period = period_in(claim, name)
    rows = {}
    for rest in open_rests(claim, name):
        found, is_sure = rows_at(by_rest(claim, name, rest), name, rest, period)
        if is_sure:
            return tuple(found)
        for row in found:
            rows[row] = True
    return tuple(rows)
