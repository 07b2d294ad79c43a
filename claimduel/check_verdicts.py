"""Whether papers on verdicts, and on what is told, are right."""

from claimduel.checks import is_integer, is_list, is_named_number, need_name
from claimduel.claims import need_claim
from claimduel.plainly import is_so_by, plain_in
from claimduel.questions import Told, Untold
from claimduel.rows import is_row, names_in_row
from claimduel.shapes import free_names
from claimduel.telling import setting_untold, two_right
from claimduel.verdicts import Alike, Always, Follows, Never, Sometimes, Unless, Unlike
from claimduel.verdicts import names_of_both, setting_apart, setting_unlike, setting_where


def table_for(value, names):
    """The dict of a setting that tells just these ascending names, in their order; None for any other value."""
    if not is_list(value) or not all([is_named_number(pair) for pair in value]):
        return None
    if [name for name, _ in value] != list(names):
        return None
    return {name: number for name, number in value}


def shows_judged(claim, value):
    claim = need_claim(claim, "claim")
    if isinstance(value, Always):
        return setting_where(claim, False) is None
    if isinstance(value, Never):
        return setting_where(claim, True) is None
    if not isinstance(value, Sometimes):
        return False
    yes, no = table_for(value.yes, free_names(claim)), table_for(value.no, free_names(claim))
    if yes is None or no is None:
        return False
    return is_so_by(claim, yes) and not is_so_by(claim, no)


def shows_follows(one, other, value):
    one = need_claim(one, "one")
    other = need_claim(other, "other")
    if isinstance(value, Follows):
        return setting_apart(one, other) is None
    if not isinstance(value, Unless):
        return False
    table = table_for(value.setting, names_of_both(one, other))
    return table is not None and is_so_by(one, table) and not is_so_by(other, table)


def shows_alike(one, other, value):
    one = need_claim(one, "one")
    other = need_claim(other, "other")
    if isinstance(value, Alike):
        return setting_unlike(one, other) is None
    if not isinstance(value, Unlike):
        return False
    table = table_for(value.setting, names_of_both(one, other))
    return table is not None and is_so_by(one, table) != is_so_by(other, table)


def are_telling(rows, names):
    """Whether any value is a list of rows ("at", d, form) without other names than these."""
    if not is_list(rows):
        return False
    for row in rows:
        if not is_row(row) or row[0] != "at" or any([name not in names for name in names_in_row(row)]):
            return False
    return True


def shows_told(claim, name, value):
    claim = need_claim(claim, "claim")
    need_name(name, "name")
    others = [other for other in free_names(claim) if other != name]
    if isinstance(value, Told):
        if not are_telling(value.rows, others):
            return False
        plain = plain_in(claim, True)
        return two_right(plain, name) is None and setting_untold(plain, value.rows, name) is None
    if not isinstance(value, Untold):
        return False
    table = table_for(value.setting, others)
    if table is None or not is_integer(value.one) or not is_integer(value.other) or value.one >= value.other:
        return False
    return is_so_by(claim, {**table, name: value.one}) and is_so_by(claim, {**table, name: value.other})
