"""How many numbers are right for a name, told by forms with guards.

Of the numbers that leave one rest by the period those below a cut are told by its form and the rest
of this form. All right ones are added up at the cuts at which the claim turns: those below a cut are
added where the claim is so just below the cut and not from it on, and taken away where it is the
other way round. So guards tell where the claim turns, and rests. Zeros are left out there; by them
single numbers are right, or are not, which are counted one by one.
"""

from math import gcd

from claimduel.atoms import contrary_literal
from claimduel.cuts import FROM, signs_in
from claimduel.marks import period_in
from claimduel.restcases import axes_for, cases_by, claim_of_cases, many_cases, worth_in
from claimduel.rests import common_of, inverse_of, multiple_of
from claimduel.shapes import NO, YES, free_names
from claimduel.singles import single_turns, with_singles, without_zeros
from claimduel.spanclaims import divisors_of
from claimduel.spans import many_in, spans_of
from claimduel.spreads import by_rest, changed, far_out, inner_of, joint
from claimduel.spreads import literals_in, open_rests, put_form, settle, shorter
from claimduel.sums import factor_in, form_sum, form_times, rest_without
from claimduel.thinning import key_of, turned

# Cases of rests are gone through one by one up to so many.
MOST_CASES = 150


def moved(claim, name):
    """The claim with the name moved by a form, so that the division with the greatest m asks of it alone.

    As many numbers are right then, and fewer rests are to be told.
    """
    best = None
    for literal in literals_in(claim):
        inner = inner_of(literal)
        if inner[0] == "rests" and len(inner[2][1]) > 1:
            factor = factor_in(inner[2], name)
            if gcd(factor, inner[1]) == 1 and (best is None or best[0] < inner[1]):
                best = (inner[1], factor, rest_without(inner[2], name))
    if best is None:
        return claim
    m, factor, rest = best
    often = -inverse_of(factor, m)
    # Of two factors that do the same the one nearer to 0.
    often += m if often * 2 < -m else 0
    form = form_sum((0, ((name, 1),)), form_times(rest, often))
    return settle(changed(claim, lambda literal: put_form(literal, name, form)))


def rest_groups(claim, name):
    """Pairs of what the claim is for some rests, settled, and these rests."""
    groups = {}
    for rest in open_rests(claim, name):
        here = by_rest(claim, name, rest)
        if here != NO:
            groups.setdefault(key_of(here), (here, []))[1].append(rest)
    return list(groups.values())


def finite_claim(groups, name):
    """A claim that says that finitely many numbers are right."""
    parts = []
    for claim, _ in groups:
        parts.extend([turned(far_out(claim, name, "left")), turned(far_out(claim, name, "right"))])
    return settle(joint("and", parts))


def put_rests(literal, told):
    """A literal, where the rests are told that all divisions ask for."""
    if literal[0] == "not":
        return contrary_literal(put_rests(literal[1], told))
    if literal[0] != "rests":
        return literal
    return YES if worth_in(literal[2], told) % literal[1] == 0 else NO


def groups_at(groups, told):
    """The groups of rest_groups where the rests are told that all divisions ask for."""
    found = {}
    for claim, rests in groups:
        here = settle(changed(claim, lambda literal: put_rests(literal, told)))
        if here != NO:
            found.setdefault(key_of(here), (here, []))[1].extend(rests)
    return list(found.values())


def parted_groups(groups):
    """Pairs of a claim about rests of other names, and what the groups are where it is so.

    Without divisions it is told at once which comparisons matter; but there may be too many cases.
    """
    wanted = []
    for claim, _ in groups:
        inner = [inner_of(literal) for literal in literals_in(claim)]
        wanted.extend([(literal[2], literal[1]) for literal in inner if literal[0] == "rests"])
    axes = axes_for(wanted)
    if not axes or many_cases(axes) > MOST_CASES:
        return [(YES, groups)]
    found = {}
    for case in cases_by(axes):
        here = groups_at(groups, {core: rest for core, rest in zip(axes, case)})
        key = tuple([(key_of(claim), tuple(rests)) for claim, rests in here])
        found.setdefault(key, (here, []))[1].append(case)
    return [(claim_of_cases(cases, list(axes.items())), here) for here, cases in found.values()]


def by_least_period(groups, period):
    """The groups, and the least divisor of the period by which they tell the same of each number."""
    pattern = [None] * period
    for at, (_, rests) in enumerate(groups):
        for rest in rests:
            pattern[rest] = at
    for least in divisors_of(period):
        if pattern[least:] == pattern[:period - least]:
            return [(claim, [low for low in rests if low < least]) for claim, rests in groups], least
    return groups, period


def leaves_of(groups, name):
    """Pairs of a guard and a tuple of triples (cut, sign, rests), the cuts at which the claim turns for these rests."""
    guard = finite_claim(groups, name)
    found = [(guard, ())] if guard != NO else []
    for here, rests in groups:
        longer = []
        for guard, signs in found:
            for more, others in signs_in(here, name, guard):
                longer.append((more, signs + tuple([(cut, sign, tuple(rests)) for cut, sign in others])))
        found = longer
    return found


def below_cut(cut, rests, period, told):
    """The form that, divided by d times the period, tells how many numbers with these rests are below a cut."""
    d, form, kind = cut
    m = d * period
    left = worth_in(form, told)
    constant = 0
    for rest in rests:
        if kind == FROM:
            constant += m - 1 - d * rest - (left - 1 - d * rest) % m
        else:
            constant += m - d * rest - (left - d * rest) % m
    return form_sum(form_times(form, len(rests)), (constant, ()))


def total_of(signs, period, told):
    """The pair (d, form) that tells how many numbers are right, where the claim turns so, and rests are told."""
    whole = multiple_of([cut[0] * period for cut, _, _ in signs])
    total = (0, ())
    for cut, sign, rests in signs:
        often = sign * (whole // (cut[0] * period))
        total = form_sum(total, form_times(below_cut(cut, rests, period, told), often))
    common = gcd(whole, common_of([total[0]] + [factor for _, factor in total[1]]))
    return whole // common, (total[0] // common, tuple([(name, factor // common) for name, factor in total[1]]))


def leaf_pieces(guard, signs, period, turns):
    """Triples (guard, d, form) for one way of the claim to turn, and all ways of single numbers to be right."""
    axes = axes_for([(cut[1], cut[0] * period) for cut, _, _ in signs])
    groups = {}
    for case in cases_by(axes):
        told = {core: rest for core, rest in zip(axes, case)}
        groups.setdefault(total_of(signs, period, told), []).append(case)
    found = []
    for d, form in groups:
        here = settle(joint("and", [guard, claim_of_cases(groups[d, form], list(axes.items()))]))
        for narrower, more in with_singles(here, turns) if here != NO else []:
            found.append((narrower, d, (form[0] + more * d, form[1])))
    return found


def count_pieces(claim, name):
    """Pieces that count the name in a settled claim, their guards settled."""
    names = free_names(claim)
    if name not in names:
        guard = turned(claim)
        return [] if guard == NO else [(guard, 1, (0, ()))]
    if names == (name,) and spans_of(claim, name) is not None:
        many = many_in(spans_of(claim, name))
        return [] if many is None else [(YES, 1, (many, ()))]
    claim = moved(claim, name)
    turns, base = single_turns(claim, name), without_zeros(claim, name)
    period = period_in(base, name)
    groups = {}
    for case, parts in parted_groups(rest_groups(base, name)):
        parts, least = by_least_period(parts, period)
        for guard, signs in leaves_of(parts, name):
            for here, d, form in leaf_pieces(settle(joint("and", [guard, case])), signs, least, turns):
                groups.setdefault((d, form), []).append(here)
    return [(shorter(settle(joint("or", groups[key]))), *key) for key in groups]
