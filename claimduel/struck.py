"""Names struck out of plain claims: plain claims without them, that say what is so for some numbers."""

from claimduel.checks import need_name, need_number, need_unlike_names
from claimduel.claims import need_plain
from claimduel.errors import BadRow
from claimduel.marks import period_in
from claimduel.spreads import by_rest, far_out, told_shortly
from claimduel.striking import SIDES, strike_all, strike_endless
from claimduel.thinning import settled_whole


def need_side(value):
    if not isinstance(value, str) or value not in SIDES:
        raise BadRow("side")


def struck(plain, name):
    plain = need_plain(plain, "plain")
    need_name(name, "name")
    return told_shortly(strike_all(settled_whole(plain), [name]))


def struck_endless(plain, name):
    plain = need_plain(plain, "plain")
    need_name(name, "name")
    return told_shortly(strike_endless(settled_whole(plain), name))


def all_struck(plain, names):
    plain = need_plain(plain, "plain")
    need_unlike_names(names, "names")
    return told_shortly(strike_all(settled_whole(plain), list(names)))


def far_at(plain, name, side, rest):
    plain = need_plain(plain, "plain")
    need_name(name, "name")
    need_side(side)
    need_number(rest, "rest")
    rest %= period_in(plain, name)
    return told_shortly(by_rest(far_out(settled_whole(plain), name, side), name, rest))
