"""Names struck out of spread claims.

For a name struck out some right number is asked for: far to a side, for each rest by the period; or
at the marks, (form + k) / d being put in. Going down from a right number by steps of the period, as
long as all are right, some literal turns to be so at the last one: a "zero" has its mark there (k is
0), the not of a "zero" one period below it, and what bounds from below less far below it.
"""

from math import gcd

from claimduel.atoms import slim
from claimduel.marks import mark_in, period_in
from claimduel.seeking import some_number
from claimduel.shapes import NO, YES, free_names
from claimduel.spreads import by_rest, changed, far_out, inner_of, joint, marks_by
from claimduel.spreads import open_rests, put_fraction, settle, shorter
from claimduel.sums import factor_in, rest_without
from claimduel.thinning import parts_for

SIDES = ("left", "right")


def points_by(claim, name, side, period):
    """Pairs (d, form): if some number is right and the claim is not so far to the side, some form / d is right."""
    sign = 1 if side == "left" else -1
    points = {}
    for literal, (d, form) in marks_by(claim, name):
        first, last = steps_at(literal, name, side, d * period)
        for step in range(first, last + 1):
            points[d, (form[0] + sign * step, form[1])] = True
    return list(points)


def steps_at(literal, name, side, most):
    """The first and the last step away from the mark of a literal, for points; the last one is less for no steps."""
    if literal[0] == "zero":
        return 0, 0
    if literal[0] == "not":
        return most, most
    is_wanted = (factor_in(literal[1], name) > 0) == (side == "right")
    return 1, most if is_wanted else 0


def many_points(claim, name, side):
    """How many points there are, equal ones counted again."""
    period, total = period_in(claim, name), 0
    for literal, mark in marks_by(claim, name):
        first, last = steps_at(literal, name, side, mark[0] * period)
        total += last - first + 1
    return total


def strike_far(claim, name, side):
    """A settled claim that says that for some rest the claim is so far to a side."""
    far = settle(far_out(claim, name, side))
    return strike(far, name) if name in free_names(far) else far


def strike_rests(claim, name):
    """A claim in which only divisions ask of the name, the name struck."""
    found = []
    for rest in open_rests(claim, name):
        here = by_rest(claim, name, rest)
        if here == YES:
            return YES
        found.append(here)
    return joint("or", found)


def at_point(claim, name, d, form):
    """The claim where the name has form / d, and d divides form, settled."""
    divides = slim(("rests", d, form)) if d > 1 else YES
    if divides == NO:
        return NO
    put = changed(claim, lambda literal: put_fraction(literal, name, d, form))
    return settle(joint("and", [divides, put]))


def cost_of(claim, name):
    """How much is to be done, about, to strike a name out of a claim that is no "or"."""
    least = least_zero(claim, name)
    if least is not None:
        return least[0]
    return min([many_points(claim, name, side) for side in SIDES]) + period_in(claim, name)


def least_zero(claim, name):
    """The mark (d, form) with the least d of what the claim says outright is zero; None without one."""
    marks = []
    for part in parts_for("and", claim):
        if part[0] == "zero" and factor_in(part[1], name) != 0:
            marks.append(mark_in(part[1], name))
    return min(marks) if marks else None


def strike_literal(literal, name):
    """A single literal with the name, struck."""
    if literal[0] != "rests":
        return YES
    _, m, form = literal
    common = gcd(m, factor_in(form, name))
    return slim(("rests", common, rest_without(form, name))) if common > 1 else YES


def strike_points(claim, name):
    """A settled claim, the name struck, by what is far, and by points."""
    options = []
    for side in SIDES:
        far = strike_far(claim, name, side)
        if far == YES:
            return YES
        options.append((many_points(claim, name, side) + len(parts_for("or", far)), side, far))
    _, side, far = min(options)
    found = [far]
    for d, form in points_by(claim, name, side, period_in(claim, name)):
        here = at_point(claim, name, d, form)
        if here == YES:
            return YES
        found.append(here)
    return joint("or", found)


def strike_within(claim, name):
    """A settled claim that is no "or", the name struck; the name is in each of its parts."""
    if free_names(claim) == (name,):
        return NO if some_number(claim, name) is None else YES
    if inner_of(claim)[0] in ("below", "rests") or claim[0] == "not":
        return strike_literal(claim, name)
    least = least_zero(claim, name)
    if least is not None:
        return at_point(claim, name, least[0], least[1])
    return strike_points(claim, name) if marks_by(claim, name) else strike_rests(claim, name)


def strike(claim, name):
    """A settled claim that is alike to: for some number of the name this settled claim is so."""
    if claim[0] == "or":
        parts = []
        for part in claim[1:]:
            parts.append(strike(part, name))
        return shorter(settle(joint("or", parts)))
    inside, outside = [], []
    for part in parts_for("and", claim):
        row = inside if name in free_names(part) else outside
        row.append(part)
    if not inside:
        return claim
    if not outside:
        return shorter(settle(strike_within(claim, name)))
    return shorter(settle(joint("and", outside + [strike(joint("and", inside), name)])))


def cheapest(claim, names):
    """The name of these, each of which is free in the claim, that is struck with least to be done."""
    if len(names) == 1:
        return names[0]
    costs = []
    for name in names:
        parts = [part for part in parts_for("or", claim) if name in free_names(part)]
        costs.append((sum([cost_of(part, name) for part in parts]), name))
    return min(costs)[1]


def strike_all(claim, names):
    """As strike, for several names, together."""
    left = [name for name in names if name in free_names(claim)]
    while left:
        claim = strike(claim, cheapest(claim, left))
        left = [name for name in left if name in free_names(claim)]
    return claim


def strike_endless(claim, name):
    """A settled claim that is alike to: for endlessly many numbers of the name this settled claim is so."""
    return shorter(settle(joint("or", [strike_far(claim, name, side) for side in SIDES])))
