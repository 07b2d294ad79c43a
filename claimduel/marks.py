"""Marks, where comparisons turn, and periods, by which divisions ask."""

from math import gcd

from claimduel.checks import need_name
from claimduel.claims import need_plain
from claimduel.rests import multiple_of
from claimduel.shapes import COMPARISONS, every_part
from claimduel.sums import factor_in, form_times, rest_without


def mark_in(form, name):
    """The mark of a comparison with this form, in which the name stands."""
    factor = factor_in(form, name)
    rest = rest_without(form, name)
    if factor > 0:
        return (factor, form_times(rest, -1))
    return (-factor, rest)


def marks_in(plain, name):
    marks = {}
    for part, _ in every_part(plain):
        if part[0] in COMPARISONS and factor_in(part[1], name) != 0:
            marks[mark_in(part[1], name)] = True
    return tuple(sorted(marks))


def period_in(plain, name):
    asked = []
    for part, _ in every_part(plain):
        if part[0] == "rests":
            asked.append(part[1] // gcd(part[1], factor_in(part[2], name)))
    return multiple_of(asked)


def marks_of(plain, name):
    plain = need_plain(plain, "plain")
    need_name(name, "name")
    return marks_in(plain, name)


def period_of(plain, name):
    plain = need_plain(plain, "plain")
    need_name(name, "name")
    return period_in(plain, name)
