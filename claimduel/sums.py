"""Forms reckoned with, where they are known to be forms of tuples throughout."""


def form_from(constant, table):
    """The form of a constant and a dict of factors, which may be 0."""
    return (constant, tuple([(name, table[name]) for name in sorted(table) if table[name] != 0]))


def factor_in(form, name):
    for other, factor in form[1]:
        if other == name:
            return factor
    return 0


def rest_without(form, name):
    """The form without the part of this name."""
    return (form[0], tuple([pair for pair in form[1] if pair[0] != name]))


def form_sum(one, other):
    table = dict(one[1])
    for name, factor in other[1]:
        table[name] = table.get(name, 0) + factor
    return form_from(one[0] + other[0], table)


def form_times(form, number):
    if number == 0:
        return (0, ())
    return (form[0] * number, tuple([(name, factor * number) for name, factor in form[1]]))


def form_put(form, name, other):
    """The form with another one put in for a name."""
    factor = factor_in(form, name)
    if factor == 0:
        return form
    return form_sum(rest_without(form, name), form_times(other, factor))


def worth_by(form, table):
    """The worth of a form, by a dict that tells all its names."""
    worth = form[0]
    for name, factor in form[1]:
        worth += factor * table[name]
    return worth
