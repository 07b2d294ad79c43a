"""Plain claims: reckoned at a setting, and made less."""

from claimduel.checks import need_setting, need_told
from claimduel.claims import need_plain
from claimduel.shapes import free_names
from claimduel.sums import worth_by
from claimduel.thinning import thin


def is_right(plain, table):
    """As holds, for a plain claim of tuples and a dict that tells all its free names."""
    label = plain[0]
    if label == "below":
        return worth_by(plain[1], table) < 0
    if label == "zero":
        return worth_by(plain[1], table) == 0
    if label == "rests":
        return worth_by(plain[2], table) % plain[1] == 0
    if label == "not":
        return not is_right(plain[1], table)
    if label in ("yes", "no"):
        return label == "yes"
    for part in plain[1:]:
        if is_right(part, table) == (label == "or"):
            return label == "or"
    return label == "and"


def holds(plain, setting):
    plain = need_plain(plain, "plain")
    table = need_setting(setting, "setting")
    need_told(free_names(plain), table)
    return is_right(plain, table)


def thinned(plain):
    return thin(need_plain(plain, "plain"))
