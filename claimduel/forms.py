"""Forms: a constant, and factors times names."""

from claimduel.checks import is_integer, is_list, is_named_number
from claimduel.checks import need_name, need_number, need_setting, need_told
from claimduel.errors import BadForm
from claimduel.papers import fixed
from claimduel.sums import factor_in, form_from, form_put, form_sum, form_times, worth_by


def is_form(value):
    if not is_list(value) or len(value) != 2 or not is_integer(value[0]) or not is_list(value[1]):
        return False
    # No name is an empty string, so each one stands behind this.
    last = ""
    for pair in value[1]:
        if not is_named_number(pair) or pair[1] == 0 or not last < pair[0]:
            return False
        last = pair[0]
    return True


def need_form(value, part):
    """The form with tuples throughout."""
    if not is_form(value):
        raise BadForm(part)
    return fixed(value)


def form_of(constant, pairs):
    need_number(constant, "constant")
    if not is_list(pairs) or not all([is_named_number(pair) for pair in pairs]):
        raise BadForm("pairs")
    table = {}
    for name, factor in pairs:
        table[name] = table.get(name, 0) + factor
    return form_from(constant, table)


def names_in(form):
    return tuple([name for name, _ in need_form(form, "form")[1]])


def factor_of(form, name):
    form = need_form(form, "form")
    need_name(name, "name")
    return factor_in(form, name)


def plus(one, other):
    one = need_form(one, "one")
    return form_sum(one, need_form(other, "other"))


def times(form, number):
    form = need_form(form, "form")
    need_number(number, "number")
    return form_times(form, number)


def put(form, name, other):
    form = need_form(form, "form")
    need_name(name, "name")
    return form_put(form, name, need_form(other, "other"))


def worth(form, setting):
    form = need_form(form, "form")
    table = need_setting(setting, "setting")
    need_told(names_in(form), table)
    return worth_by(form, table)
