"""Cuts, where a claim turns that has no zero of the name.

A *cut* is a triple (d, form, kind): as an integer it is the least number that is not below form / d
if its kind is "from", the least one above form / d if its kind is "past". So each comparison with
the name, which is no zero, is so just below its cut, or just from it on.
"""

from claimduel.atoms import contrary_literal, slim
from claimduel.marks import mark_in
from claimduel.shapes import NO, YES
from claimduel.spreads import changed, inner_of, is_turning, joint, marks_by, settle
from claimduel.sums import factor_in, form_sum, form_times
from claimduel.thinning import turned

FROM = "from"
PAST = "past"


def cut_in(literal, name):
    """The cut of a "below" with this name."""
    return (*mark_in(literal[1], name), FROM if factor_in(literal[1], name) > 0 else PAST)


def all_cuts(claim, name):
    return sorted({cut_in(inner_of(literal), name): True for literal, _ in marks_by(claim, name)})


def is_before(cut, other):
    """A literal that says that a cut comes before another one; of equal ones any may be first, but always the same."""
    form = form_sum(form_times(cut[1], other[0]), form_times(other[1], -cut[0]))
    if cut[2] == other[2]:
        is_strict = other < cut
    else:
        is_strict = cut[2] == PAST
    return slim(("below", form if is_strict else (form[0] - 1, form[1])))


def literal_by(literal, name, cut, is_beyond):
    """What a literal is right below a cut, or from it on if that is beyond."""
    if not is_turning(literal, name):
        return literal
    own = cut_in(literal, name)
    if own == cut:
        is_passed = YES if is_beyond else NO
    else:
        is_passed = is_before(own, cut)
    return is_passed if own[2] == PAST else contrary_literal(is_passed)


def by_cut(claim, name, cut, is_beyond):
    return settle(changed(claim, lambda literal: literal_by(literal, name, cut, is_beyond)))


def turnings(low, high):
    """Pairs of a sign and a claim that says that it is so: 1 for so below and not beyond, -1 for the other way, 0."""
    pairs = [(1, settle(joint("and", [low, turned(high)]))), (-1, settle(joint("and", [turned(low), high])))]
    is_same = [joint("and", [low, high]), joint("and", [turned(low), turned(high)])]
    pairs.append((0, settle(joint("or", is_same))))
    return [(sign, claim) for sign, claim in pairs if claim != NO]


def signs_in(claim, name, guard):
    """Pairs of a guard and a tuple of pairs (cut, sign), the cuts at which the claim turns then.

    As the claim is not so far out, it turns to be so as often as not to be so.
    """
    cuts = all_cuts(claim, name)
    found = [(guard, (), 0)]
    for at, cut in enumerate(cuts):
        options = turnings(by_cut(claim, name, cut, False), by_cut(claim, name, cut, True))
        behind = len(cuts) - at - 1
        longer = []
        for here, signs, total in found:
            for sign, option in options:
                if not -behind <= total + sign <= behind:
                    continue
                more = settle(joint("and", [here, option]))
                if more != NO:
                    longer.append((more, signs + ((cut, sign),) if sign else signs, total + sign))
        found = longer
    return [(here, signs) for here, signs, _ in found]
