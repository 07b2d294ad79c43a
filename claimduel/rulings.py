"""Rules found for claims of two names, a name and one that it is told by.

By the other name cuts are told: between two of them the marks of the name keep their order, and no
comparison without the name turns. There, for the integers that leave one rest by some m, how many
numbers are right is told by one form [8]. So it is enough to count at two of them.
"""

from math import gcd

from claimduel.marks import mark_in, marks_in, period_in
from claimduel.rests import multiple_of
from claimduel.shapes import COMPARISONS, NO, YES
from claimduel.spans import lines_of, many_in
from claimduel.spreads import inner_of, literals_in
from claimduel.stretches import entry_by, tidy_rows
from claimduel.striking import strike_endless
from claimduel.sums import factor_in
from claimduel.thinning import DUAL


def crossing(one, other):
    """The fraction (number, d) at which two lines (d, factor, constant) meet; None for lines that never do."""
    slope = other[0] * one[1] - one[0] * other[1]
    if slope == 0:
        return None
    number = one[0] * other[2] - other[0] * one[2]
    return (-number, -slope) if slope < 0 else (number, slope)


def cuts_in(claim, name, by):
    """The ascending integers from which on the other name may be on another side of a fraction, or at it."""
    lines = [(d, factor_in(form, by), form[0]) for d, form in marks_in(claim, name)]
    turns = [crossing(one, other) for at, one in enumerate(lines) for other in lines[:at]]
    for literal in literals_in(claim):
        inner = inner_of(literal)
        if inner[0] in COMPARISONS and factor_in(inner[1], name) == 0:
            d, form = mark_in(inner[1], by)
            turns.append((form[0], d))
    cuts = {}
    for number, d in [turn for turn in turns if turn is not None]:
        cuts[-(-number // d)] = True
        cuts[number // d + 1] = True
    return sorted(cuts)


def period_by(claim, name, by):
    """By how much the other name may grow for the same rests of all that matters."""
    period, asked = period_in(claim, name), [period_in(claim, by)]
    for d, form in marks_in(claim, name):
        asked.append(d * period // gcd(d * period, factor_in(form, by)))
    return multiple_of(asked)


def literal_at(literal, name, by, number):
    """The literal, which may be less than slim, where the other name has a number."""
    if literal[0] == "not":
        return ("not", literal_at(literal[1], name, by, number))
    form = literal[-1]
    constant, factor = form[0] + factor_in(form, by) * number, factor_in(form, name)
    if factor != 0:
        return literal[:-1] + ((constant, ((name, factor),)),)
    if literal[0] == "rests":
        return YES if constant % literal[1] == 0 else NO
    return YES if constant < 0 and literal[0] == "below" or constant == 0 and literal[0] == "zero" else NO


def claim_at(claim, name, by, number):
    if claim[0] not in DUAL:
        return claim if claim in (YES, NO) else literal_at(claim, name, by, number)
    parts = []
    for part in claim[1:]:
        parts.append(claim_at(part, name, by, number))
    return (claim[0], *parts)


class Counting:
    """How many numbers are right for a name, at integers for another one."""

    def __init__(self, claim, name, by):
        self.claim = claim
        self.name = name
        self.by = by
        self.m = period_in(claim, name)
        self.asked = period_in(claim, by)
        # By rests of the other name how many more are right a step on, in the stretch that is looked at.
        self.growths = {}

    def at(self, number):
        """How many are right at an integer; None for endlessly many."""
        claim = claim_at(self.claim, self.name, self.by, number)
        return many_in((self.m,) + lines_of(claim, self.m))

    def growth(self, number, step):
        """By how much more are right at the integer that is a step greater, where not endlessly many are.

        It hangs on what divisions ask of the other name, not on all rests by the step.
        """
        key = number % self.asked
        if key not in self.growths:
            self.growths[key] = self.at(number + step) - self.at(number)
        return self.growths[key]

    def stretch(self, first, last, step):
        """The stretch from first to last, where all integers of one rest by the step have one form."""
        if first is not None and last is not None and last - first < 2 * step:
            return self.short_stretch(first, last)
        start = first
        if first is None:
            start = 0 if last is None else last - 2 * step + 1
        self.growths = {}
        entries = [None] * step
        for number in range(start, start + step):
            many = self.at(number)
            if many is not None:
                slope = self.growth(number, step)
                entries[number % step] = entry_by(slope, many * step - slope * number, step)
        return (first, last, entries)

    def short_stretch(self, first, last):
        entries = [None] * (last - first + 1)
        for number in range(first, last + 1):
            many = self.at(number)
            entries[number % len(entries)] = None if many is None else (0, many, 1)
        return (first, last, entries)


def rows_of_rule(claim, name, by):
    """The stretches of a rule: how many numbers are right for the name in a settled claim, by the other name."""
    if strike_endless(claim, name) == YES:
        return [(None, None, [None])]
    counting = Counting(claim, name, by)
    cuts, step = cuts_in(claim, name, by), period_by(claim, name, by)
    rows = []
    for first, last in zip([None] + cuts, [cut - 1 for cut in cuts] + [None]):
        rows.append(counting.stretch(first, last, step))
    return tidy_rows(rows)
