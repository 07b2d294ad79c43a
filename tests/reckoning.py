"""Own reckoning, by trial, that the tests compare with: numbers are tried one by one.

Nothing here is taken from the package. Where trial cannot go through all numbers, it goes through
those around all turning points, and one for each rest by the period between and beyond them.
"""

from math import gcd, lcm


def worth_at(form, setting):
    return form[0] + sum(factor * setting[name] for name, factor in form[1])


def plain_so(claim, setting):
    """Whether a plain claim is so."""
    label = claim[0]
    if label in ("yes", "no"):
        return label == "yes"
    if label == "not":
        return not plain_so(claim[1], setting)
    if label in ("and", "or"):
        return (all if label == "and" else any)(plain_so(part, setting) for part in claim[1:])
    worth = worth_at(claim[-1], setting)
    return {"below": worth < 0, "zero": worth == 0, "rests": label == "rests" and worth % claim[1] == 0}[label]


def atoms_in(claim):
    """The comparisons and divisions of a plain claim."""
    if claim[0] in ("below", "zero", "rests"):
        return [claim]
    return [atom for part in claim[1:] for atom in atoms_in(part)]


def turning_points(claim, name, setting):
    """The integers at or next to which some comparison turns, ascending, and the period."""
    points, period = set(), 1
    for atom in atoms_in(claim):
        factor = dict(atom[-1][1]).get(name, 0)
        if atom[0] == "rests":
            period = lcm(period, atom[1] // gcd(atom[1], factor))
        elif factor:
            rest = worth_at(atom[-1], {**setting, name: 0})
            points |= {-rest // factor - 1, -rest // factor, -rest // factor + 1}
    return sorted(points) or [0], period


def stretches(claim, name, setting):
    """Rows (numbers tried, how many stand for each of them or None for endlessly many)."""
    points, period = turning_points(claim, name, setting)
    rows = [(points[0] - 1 - k, None) for k in range(period)] + [(points[-1] + 1 + k, None) for k in range(period)]
    rows += [(point, 1) for point in points]
    for low, high in zip(points, points[1:]):
        many = high - low - 1
        rows += [(low + 1 + k, (many - k + period - 1) // period) for k in range(min(many, period))]
    return rows


def right_rows(claim, name, setting):
    return [(number, many) for number, many in stretches(claim, name, setting)
            if plain_so(claim, {**setting, name: number})]


def some_right(claim, name, setting):
    return bool(right_rows(claim, name, setting))


def endless_right(claim, name, setting):
    return any(many is None for _, many in right_rows(claim, name, setting))


def many_right(claim, name, setting):
    """How many numbers are right; None for endlessly many."""
    rows = right_rows(claim, name, setting)
    return None if any(many is None for _, many in rows) else sum(many for _, many in rows)


def near_numbers(claim, name, setting, by=2):
    """Numbers around all turning points, and far to both sides, some for each rest."""
    points, period = turning_points(claim, name, setting)
    around = {point + k for point in points for k in range(-by * period - 1, by * period + 2)}
    far = {sign * (10 ** 50 + k) for sign in (-1, 1) for k in range(period)}
    return sorted(around | far)


def so_by_trial(claim, setting, widths):
    """Whether any claim is so: each bound name is tried from -width to width, the outermost one first.

    What is right within 30 of a width counts for endless: so the widths must be chosen great enough.
    """
    label = claim[0]
    if label == "not":
        return not so_by_trial(claim[1], setting, widths)
    if label in ("and", "or"):
        return (all if label == "and" else any)(so_by_trial(part, setting, widths) for part in claim[1:])
    if label == "count":
        return count_by_trial(claim, setting, widths)
    if label not in ("all", "some", "endless"):
        return plain_so(claim, setting)
    width, name = widths[0], claim[1]
    found = (number for number in range(-width, width + 1)
             if so_by_trial(claim[2], {**setting, name: number}, widths[1:]) != (label == "all"))
    if label == "endless":
        return any(abs(number) > width - 30 for number in found)
    return any(True for _ in found) == (label == "some")


def count_by_trial(claim, setting, widths):
    _, kind, form, rows = claim
    total, width = worth_at(form, setting), widths[0]
    for factor, name, part in rows:
        right = [number for number in range(-width, width + 1)
                 if so_by_trial(part, {**setting, name: number}, widths[1:])]
        if any(abs(number) > width - 30 for number in right):
            return False
        total += factor * len(right)
    return total < 0 if kind == "below" else total == 0
