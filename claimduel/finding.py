"""A setting found at which a claim is so: case by case, as far as a number that was found is not right."""

from claimduel.atoms import contrary_literal
from claimduel.plain import is_right
from claimduel.shapes import NO
from claimduel.solving import fresh_name, solve
from claimduel.spreads import inner_of, joint, settle
from claimduel.sums import form_times
from claimduel.thinning import DUAL, parts_for

# The not of a division is looked at rest by rest up to this m.
MOST_RESTS = 500
# Calls within calls shall not go too deep.
MOST_DEPTH = 80


def named(literals):
    """Pairs of each division among literals, or not of one with a great m, and a name for how often it goes in."""
    found = []
    for literal in literals:
        if literal[0] == "rests" or is_great(literal):
            found.append((literal, fresh_name(len(found))))
    return found


def is_great(literal):
    """Whether it is the not of a division with too many rests to be looked at one by one."""
    return literal[0] == "not" and literal[1][0] == "rests" and literal[1][1] > MOST_RESTS


def found_for(literals):
    """A dict of numbers for which all literals are so, but for nots that are looked at later; None if there is none."""
    belows = [literal[1] for literal in literals if literal[0] == "below"]
    zeros = [literal[1] for literal in literals if literal[0] == "zero"]
    divisions = named(literals)
    for literal, name in divisions:
        _, m, (constant, pairs) = inner_of(literal)
        rest = (constant, ((name, -m),) + pairs)
        if literal[0] == "rests":
            zeros.append(rest)
        else:
            belows.extend([(rest[0] - m, rest[1]), form_times(rest, -1)])
    return solve(belows, zeros, len(divisions))


def cases_of(part):
    """Claims, one of which is so if an "or", or the not of a comparison or division, is so."""
    if part[0] == "or":
        return list(part[1:])
    literal = part[1]
    if literal[0] == "zero":
        return [("below", literal[1]), ("below", form_times(literal[1], -1))]
    _, m, (constant, pairs) = literal
    return [("rests", m, ((constant - rest) % m, pairs)) for rest in range(1, m)]


def many_cases(part):
    if part[0] == "or":
        return len(part) - 1
    return 2 if part[1][0] == "zero" else part[1][1] - 1


def pruned(claim, around):
    """A spread claim that is alike where literals around it are so: without what cannot be so with them."""
    if claim[0] not in DUAL:
        return NO if found_for(around + [claim]) is None else claim
    if claim[0] == "or":
        parts = []
        for part in claim[1:]:
            parts.append(pruned(part, around))
        return joint("or", parts)
    literals = [part for part in claim[1:] if part[0] not in DUAL]
    around = around + literals
    if found_for(around) is None:
        return NO
    parts = []
    for part in claim[1:]:
        if part[0] in DUAL:
            parts.append(pruned(part, around))
    return joint("and", literals + parts)


class Search:
    """Looks for numbers, case by case, as long as no more cases are looked at than it may, nor one within too many."""

    def __init__(self, names, most):
        self.names = names
        self.left = most

    def is_spent(self):
        """Whether it has given up: nothing is told then by what it did not find."""
        return self.left == 0

    def find(self, claim, depth):
        """A dict of numbers for the names, at which a settled claim without others is so; None if there is none."""
        if claim == NO or self.is_spent():
            return None
        self.left = 0 if depth == MOST_DEPTH else self.left - 1
        parts = parts_for("and", claim)
        found = found_for(parts)
        if found is None:
            return None
        table = {name: found.get(name, 0) for name in self.names}
        wrong = [(many_cases(part), at) for at, part in enumerate(parts) if not is_right(part, table)]
        return self.find_case(parts, min(wrong)[1], depth + 1) if wrong else table

    def find_case(self, parts, at, depth):
        """As find, for the "and" of these parts, by the cases of one of them."""
        rest = parts[:at] + parts[at + 1:]
        for case in cases_of(parts[at]):
            found = self.find(settle(joint("and", [case] + rest)), depth)
            if found is not None:
                return found
            # What was looked at is not looked at again; the cases of a not have nothing in common.
            if parts[at][0] == "or" and case[0] not in DUAL:
                rest = rest + [contrary_literal(case)]
        return None
