"""Integers found for which forms are all below 0, and others all 0.

Names are put in, or go away, one after the other. What is 0 tells a name by others. A name that is
between bounds goes away with these, for which each lower one is compared with each upper one: if they
are far enough apart, an integer is between them; if they are near, some lower bound is nearly reached.
"""

from claimduel.atoms import slim
from claimduel.shapes import NO, YES
from claimduel.sums import factor_in, form_put, form_sum, form_times, rest_without


def worth_in(form, table):
    """The worth of a form; names that the dict does not tell are 0."""
    return form[0] + sum([factor * table.get(name, 0) for name, factor in form[1]])


def tightest(belows):
    """The forms (constant, pairs) that are to be below 0, as a dict of constants by pairs; None if they cannot be."""
    table = {}
    for form in belows:
        literal = slim(("below", form))
        if literal == NO:
            return None
        if literal != YES:
            constant, pairs = literal[1]
            table[pairs] = max(constant, table.get(pairs, constant))
    return table


def opposite(pairs):
    return tuple([(name, -factor) for name, factor in pairs])


def fresh_name(number):
    """What is no name, so that it stands in no claim."""
    return f"-{number}"


def told_by_zero(form, fresh):
    """The name with the least factor of a form that is to be 0, and the form that is put in for it.

    A factor 1 lets it be told; otherwise it is told by the fresh name, so that the other factors get less.
    """
    least, name = min([(abs(factor), name) for name, factor in form[1]])
    factor, rest = factor_in(form, name), rest_without(form, name)
    if least == 1:
        return name, form_times(rest, -factor)
    wholes = [(other, -((2 * by + factor) // (2 * factor))) for other, by in rest[1]]
    pairs = [(other, by) for other, by in wholes if by != 0]
    return name, form_sum((0, ((fresh_name(fresh), 1),)), (0, tuple(pairs)))


def put_all(forms, name, form):
    return [form_put(other, name, form) for other in forms]


def solve(belows, zeros, fresh):
    """A dict of integers for which the ones are below 0, the others 0; None if there are none.

    Names that it does not tell may have any numbers. From this number on all fresh names are its own.
    """
    told = []
    while zeros:
        literal = slim(("zero", zeros[0]))
        if literal == NO:
            return None
        if literal == YES:
            zeros = zeros[1:]
            continue
        name, form = told_by_zero(literal[1], fresh)
        told.append((name, form))
        belows, zeros, fresh = put_all(belows, name, form), put_all(zeros, name, form), fresh + 1
    found = solve_belows(belows, fresh)
    if found is None:
        return None
    for name, form in reversed(told):
        found = {**found, name: worth_in(form, found)}
    return found


def solve_belows(belows, fresh):
    """As solve, where nothing else is to be 0."""
    table = tightest(belows)
    if table is None:
        return None
    for pairs in table:
        # The pairs are above the one constant, turned, and below the other one.
        if opposite(pairs) in table and table[pairs] + table[opposite(pairs)] >= -2:
            if table[pairs] + table[opposite(pairs)] > -2:
                return None
            return solve([(table[other], other) for other in table], [(table[pairs] + 1, pairs)], fresh)
    return solve_bounds(table, fresh) if table else {}


def bounds_by(table, name):
    """Pairs (d, form): those for which d times the name is at least form, and those for which it is at most form."""
    lows, highs = [], []
    for pairs in table:
        form = (table[pairs] + 1, pairs)
        factor, rest = factor_in(form, name), rest_without(form, name)
        if factor < 0:
            lows.append((-factor, rest))
        elif factor > 0:
            highs.append((factor, form_times(rest, -1)))
    return lows, highs


def cost_of(table, name):
    """How near, about, bounds may be for a name to go away at once, and how many more bounds there are then."""
    lows, highs = bounds_by(table, name)
    near = min(max([d for d, _ in lows], default=1), max([d for d, _ in highs], default=1)) - 1
    return (near.bit_length(), len(lows) * len(highs) - len(lows) - len(highs))


def between(lows, highs, is_dark):
    """The forms that are below 0 if each lower bound is at most each upper one, or far enough below it."""
    found = []
    for a, low in lows:
        for b, high in highs:
            form = form_sum(form_times(low, b), form_times(high, -a))
            found.append((form[0] - 1 + ((a - 1) * (b - 1) if is_dark else 0), form[1]))
    return found


def number_between(lows, highs, table):
    """The least integer that lower bounds let be, or the greatest one that upper ones let be."""
    if lows:
        return max([-(-worth_in(form, table) // d) for d, form in lows])
    return min([worth_in(form, table) // d for d, form in highs])


def solve_bounds(table, fresh):
    """As solve, for a dict of constants by pairs."""
    names = {name: True for pairs in table for name, _ in pairs}
    (near, _), name = min([(cost_of(table, name), name) for name in names])
    lows, highs = bounds_by(table, name)
    others = [(table[pairs], pairs) for pairs in table if name not in [other for other, _ in pairs]]
    found = solve(others + between(lows, highs, True), [], fresh)
    if found is not None:
        return {**found, name: number_between(lows, highs, found)}
    if near == 0 or solve(others + between(lows, highs, False), [], fresh) is None:
        return None
    return solve_near(table, name, fresh)


def solve_near(table, name, fresh):
    """As solve, where some lower bound of a name must be nearly reached."""
    lows, highs = bounds_by(table, name)
    belows = [(table[pairs], pairs) for pairs in table]
    most = max([d for d, _ in highs])
    for d, form in lows:
        for step in range((d * most - d - most) // most + 1):
            equal = form_sum((-step, ((name, d),)), form_times(form, -1))
            found = solve(belows, [equal], fresh)
            if found is not None:
                return found
    return None
