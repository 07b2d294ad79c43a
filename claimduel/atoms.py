"""Comparisons and divisions by themselves, made as short as they can be.

A *literal* is yes, no, a comparison, a division, or the not of a "zero" or of a division.
"""

from math import gcd

from claimduel.rests import common_of, inverse_of
from claimduel.shapes import NO, YES, contrary_of
from claimduel.sums import form_times


def slim_below(form):
    constant, pairs = form
    if not pairs:
        return YES if constant < 0 else NO
    common = common_of([factor for _, factor in pairs])
    # The sum of the pairs is common times an integer, so the constant may be rounded down.
    return ("below", (constant // common, tuple([(name, factor // common) for name, factor in pairs])))


def slim_zero(form):
    constant, pairs = form
    if not pairs:
        return YES if constant == 0 else NO
    common = common_of([factor for _, factor in pairs])
    if constant % common != 0:
        return NO
    if pairs[0][1] < 0:
        common = -common
    return ("zero", (constant // common, tuple([(name, factor // common) for name, factor in pairs])))


def slim_rests(m, form):
    pairs = [(name, factor % m) for name, factor in form[1] if factor % m != 0]
    common = gcd(m, common_of([factor for _, factor in pairs]))
    if form[0] % common != 0:
        return NO
    less = m // common
    if less == 1:
        return YES
    factor = pairs[0][1] // common
    # Divisions that say the same are told in one way: with 1 as the first factor, where it can be.
    turned = inverse_of(factor, less) if gcd(factor, less) == 1 else 1
    pairs = [(name, factor // common * turned % less) for name, factor in pairs]
    return ("rests", less, (form[0] // common * turned % less, tuple(pairs)))


def slim(atom):
    """A literal that is alike to a comparison, a division, yes or no."""
    if atom[0] == "below":
        return slim_below(atom[1])
    if atom[0] == "zero":
        return slim_zero(atom[1])
    if atom[0] == "rests":
        return slim_rests(atom[1], atom[2])
    return atom


def contrary_literal(literal):
    """The literal that is so where a slim one is not."""
    label = literal[0]
    if label == "yes":
        return NO
    if label == "no":
        return YES
    if label == "below":
        constant, pairs = form_times(literal[1], -1)
        return ("below", (constant - 1, pairs))
    if label == "rests" and literal[1] == 2:
        constant, pairs = literal[2]
        return ("rests", 2, (1 - constant, pairs))
    return contrary_of(literal)
