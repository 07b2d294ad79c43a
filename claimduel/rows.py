"""Rows, each of which tells one number at a setting, or none."""

from claimduel.checks import is_list, is_within, need_name, need_setting, need_told
from claimduel.claims import need_plain
from claimduel.errors import BadRow
from claimduel.forms import is_form
from claimduel.papers import fixed
from claimduel.rowsets import rows_of
from claimduel.sums import worth_by


def is_mark(value):
    """Whether it is a pair (d, form), d from 1 on."""
    return is_list(value) and len(value) == 2 and is_within(value[0], 1, None) and is_form(value[1])


def is_row(value):
    if not is_list(value) or len(value) == 0 or not isinstance(value[0], str):
        return False
    if value[0] == "at":
        return len(value) == 3 and is_mark(value[1:])
    if value[0] not in ("left", "right") or len(value) != 4:
        return False
    _, rest, m, marks = value
    if not is_within(m, 1, None) or not is_within(rest, 0, m - 1) or not is_list(marks):
        return False
    return all([is_mark(mark) for mark in marks])


def need_row(value, part):
    """The row with tuples throughout."""
    if not is_row(value):
        raise BadRow(part)
    return fixed(value)


def marks_in_row(row):
    """The pairs (d, form) of a row."""
    return (row[1:],) if row[0] == "at" else row[3]


def names_in_row(row):
    names = {}
    for _, form in marks_in_row(row):
        for name, _ in form[1]:
            names[name] = True
    return sorted(names)


def told_by_row(row, table):
    """As number_by, for a row of tuples and a dict that tells all its names."""
    worths = [(d, worth_by(form, table)) for d, form in marks_in_row(row)]
    if row[0] == "at":
        d, told = worths[0]
        return told // d if told % d == 0 else None
    _, rest, m, _ = row
    if not worths:
        return rest
    if row[0] == "left":
        bound = min([(told - 1) // d for d, told in worths])
        return bound - (bound - rest) % m
    bound = max([told // d + 1 for d, told in worths])
    return bound + (rest - bound) % m


def number_by(row, setting):
    row = need_row(row, "row")
    table = need_setting(setting, "setting")
    need_told(names_in_row(row), table)
    return told_by_row(row, table)


def rows_for(plain, name):
    plain = need_plain(plain, "plain")
    need_name(name, "name")
    return rows_of(plain, name)
