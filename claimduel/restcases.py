"""The rests that forms may leave, case by case.

*Axes* are a dict of cores, rows of pairs (name, factor), each with an m: in each case every core
leaves a rest by its m. A case is a tuple of these rests, in the order of the axes.
"""

from math import gcd

from claimduel.atoms import contrary_literal, slim
from claimduel.rests import common_of, multiple_of
from claimduel.shapes import YES
from claimduel.spanclaims import claim_of_mask, least_period
from claimduel.spans import full_mask
from claimduel.spreads import changed, joint


def core_in(pairs):
    """The pair of a core without a common divisor, its first factor above 0, and how often the pairs have it."""
    often = common_of([factor for _, factor in pairs])
    if pairs[0][1] < 0:
        often = -often
    return tuple([(name, factor // often) for name, factor in pairs]), often


def many_cases(axes):
    many = 1
    for core in axes:
        many *= axes[core]
    return many


def axes_for(wanted):
    """Axes that tell the rest of each form by its m, for pairs (form, m): by cores or by names, for fewer cases."""
    by_core, by_name = {}, {}
    for form, m in wanted:
        if form[1]:
            core, often = core_in(form[1])
            by_core[core] = multiple_of([by_core.get(core, 1), m // gcd(m, often)])
        for name, factor in form[1]:
            alone = ((name, 1),)
            by_name[alone] = multiple_of([by_name.get(alone, 1), m // gcd(m, factor)])
    return by_core if many_cases(by_core) <= many_cases(by_name) else by_name


def cases_by(axes):
    """All cases, as tuples."""
    cases = [()]
    for core in axes:
        cases = [(*case, rest) for case in cases for rest in range(axes[core])]
    return cases


def worth_in(form, told):
    """A number that leaves the rest that the form leaves, told being a case as a dict by cores."""
    if not form[1]:
        return form[0]
    core, often = core_in(form[1])
    if core in told:
        return form[0] + often * told[core]
    return form[0] + sum([factor * told[((name, 1),)] for name, factor in form[1]])


def put_core(literal, core):
    """A literal about a name alone, said of a core instead."""
    if literal[0] == "not":
        return contrary_literal(put_core(literal[1], core))
    if literal[0] != "rests":
        return literal
    return slim(("rests", literal[1], (literal[2][0], core)))


def claim_of_rests(rests, core, m):
    """A spread claim that says that the core leaves one of these rests by m."""
    mask = sum([1 << rest for rest in rests])
    least = least_period(mask, m)
    claim = claim_of_mask(mask & full_mask(least), least, "x")
    return changed(claim, lambda literal: put_core(literal, core))


def claim_of_cases(cases, axes):
    """A spread claim that says that one of these cases is so; axes is a list of pairs (core, m)."""
    if not axes:
        return YES
    core, m = axes[0]
    rows = {}
    for case in cases:
        rows.setdefault(case[0], []).append(case[1:])
    groups = {}
    for rest in rows:
        groups.setdefault(tuple(rows[rest]), []).append(rest)
    parts = []
    for others in groups:
        here = claim_of_rests(groups[others], core, m)
        parts.append(joint("and", [here, claim_of_cases(others, axes[1:])]))
    return joint("or", parts)
