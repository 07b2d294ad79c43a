"""A right number found for a claim of one name: by its spans, or, where its period is too great, by trial."""

from math import gcd

from claimduel.plain import is_right
from claimduel.rests import least_root, rest_of_both
from claimduel.shapes import NO
from claimduel.spans import lines_of, some_in, spans_of
from claimduel.spreads import inner_of, joint, settle
from claimduel.thinning import parts_for


def some_number(claim, name):
    """A right number of the name for a settled claim without other names; None if there is none."""
    spans = spans_of(claim, name)
    return seek(claim, name) if spans is None else some_in(spans)


def seek(claim, name):
    """As some_number, by the parts of each "or"."""
    if claim[0] == "or":
        return first_found(claim[1:], name)
    parts = parts_for("and", claim)
    # Fewest cases first: so most others are told by those that were taken.
    options = sorted([(len(part), at) for at, part in enumerate(parts) if part[0] == "or"])
    if not options:
        return None if claim == NO else seek_by_trial(claim, parts, name)
    at = options[0][1]
    rest = parts[:at] + parts[at + 1:]
    for piece in parts[at][1:]:
        found = seek(settle(joint("and", [piece] + rest)), name)
        if found is not None:
            return found
    return None


def first_found(claims, name):
    for claim in claims:
        found = seek(claim, name)
        if found is not None:
            return found
    return None


def common_rest(literals):
    """The pair (rest, m) of all numbers that all divisions among these literals let be; None for none."""
    pair = (0, 1)
    for literal in literals:
        if literal[0] != "rests" or pair is None:
            continue
        _, m, form = literal
        factor = form[1][0][1]
        root = least_root(factor, form[0], m)
        pair = None if root is None else rest_of_both(pair, (root, m // gcd(m, factor)))
    return pair


def seek_by_trial(claim, literals, name):
    """As some_number, for an "and" of literals.

    Numbers are tried that leave the rest told by divisions, from an end on if there is one. Each not
    of a division bars one rest by some m of what is tried: if n of these leave some number free, they
    leave one free of any 2 ** n neighbours. Each not of a zero bars one number.
    """
    pair = common_rest(literals)
    if pair is None:
        return None
    bounds = [literal for literal in literals if literal[0] in ("below", "zero")]
    cuts = lines_of(joint("and", bounds), 1)
    if cuts[1] == (0,):
        return None
    barred = [inner_of(literal)[0] for literal in literals if literal[0] == "not"]
    rest, m = pair
    here, step = rest, m
    if cuts[1][0] == 0:
        here = cuts[0][0] + (rest - cuts[0][0]) % m
    elif cuts[0]:
        here, step = cuts[0][0] - 1 - (cuts[0][0] - 1 - rest) % m, -m
    for _ in range((barred.count("zero") + 1) << barred.count("rests")):
        if is_right(claim, {name: here}):
            return here
        here += step
    return None
