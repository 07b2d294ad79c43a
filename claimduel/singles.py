"""Numbers that are right, or wrong, by what is said to be zero: the marks of zeros, one by one."""

from claimduel.atoms import contrary_literal, slim
from claimduel.shapes import NO, YES
from claimduel.spreads import changed, inner_of, is_turning, joint, marks_by, settle
from claimduel.striking import at_point
from claimduel.sums import form_sum, form_times
from claimduel.thinning import turned


def put_unlike(literal, name):
    """The literal for numbers that are at no mark of a zero."""
    if inner_of(literal)[0] != "zero" or not is_turning(inner_of(literal), name):
        return literal
    return NO if literal[0] == "zero" else YES


def without_zeros(claim, name):
    """The claim for all numbers but those at marks of zeros, settled."""
    return settle(changed(claim, lambda literal: put_unlike(literal, name)))


def are_unlike(mark, other):
    """A literal that says that two marks are unlike."""
    form = form_sum(form_times(mark[1], other[0]), form_times(other[1], -mark[0]))
    return contrary_literal(slim(("zero", form)))


def single_turns(claim, name):
    """For each mark of a zero pairs (more, claim) of how many more numbers are right by it, and when this is so.

    More than those for which the claim without zeros is so; of equal marks only the first one counts.
    """
    marks = sorted({mark: True for literal, mark in marks_by(claim, name) if inner_of(literal)[0] == "zero"})
    base, turns = without_zeros(claim, name), []
    for at, mark in enumerate(marks):
        unlike = [are_unlike(mark, other) for other in marks[:at]]
        here, there = at_point(claim, name, mark[0], mark[1]), at_point(base, name, mark[0], mark[1])
        more = settle(joint("and", [here, turned(there)] + unlike))
        less = settle(joint("and", [there, turned(here)] + unlike))
        same = settle(joint("and", [turned(more), turned(less)]))
        turns.append([(count, part) for count, part in ((1, more), (-1, less), (0, same)) if part != NO])
    return turns


def with_singles(guard, turns):
    """Pairs of a guard, made narrower, and how many more numbers are right by single ones where it is so."""
    found = [(guard, 0)]
    for options in turns:
        longer = []
        for here, total in found:
            for more, option in options:
                narrower = settle(joint("and", [here, option]))
                if narrower != NO:
                    longer.append((narrower, total + more))
        found = longer
    return found
