"""Questions about claims: which numbers are right, how many, which rows tell them, what lies between."""

from claimduel.checks import need_name, need_setting, need_told, need_unlike_names
from claimduel.claims import need_claim
from claimduel.errors import Misfit, TooMany
from claimduel.layouts import layout_of
from claimduel.papers import Denial, Paper
from claimduel.plainly import plain_in, right_in
from claimduel.shapes import free_names
from claimduel.spans import greatest_in, least_in, many_in, spans_of
from claimduel.spreads import told_shortly
from claimduel.steps import MOST_ROWS
from claimduel.striking import strike_all
from claimduel.telling import SECOND, telling_rows, two_right
from claimduel.verdicts import setting_apart


class Told(Paper):
    """At most one number is right for a name, and one of the rows gives it."""

    def __init__(self, rows):
        Paper.__init__(self, "told", rows)
        self.rows = self.parts[0]


class Untold(Denial):
    """Two numbers are right for a name at a setting."""

    def __init__(self, setting, one, other):
        Denial.__init__(self, "untold", setting, one, other)
        self.setting, self.one, self.other = self.parts


def asked(claim, name, setting):
    """The settled claim in which the name alone has no number."""
    claim = need_claim(claim, "claim")
    need_name(name, "name")
    table = need_setting(setting, "setting")
    need_told([other for other in free_names(claim) if other != name], table)
    return right_in(claim, name, table, True)


def asked_spans(claim, name, setting):
    """The spans of the right numbers."""
    spans = spans_of(asked(claim, name, setting), name)
    if spans is None:
        raise TooMany("rows", MOST_ROWS)
    return spans


def all_for(claim, name, setting):
    return layout_of(asked(claim, name, setting), name)


def least_for(claim, name, setting):
    return least_in(asked_spans(claim, name, setting))


def greatest_for(claim, name, setting):
    return greatest_in(asked_spans(claim, name, setting))


def many_for(claim, name, setting):
    return many_in(asked_spans(claim, name, setting))


def told_by(claim, name):
    claim = need_claim(claim, "claim")
    need_name(name, "name")
    plain = plain_in(claim, True)
    found = two_right(plain, name)
    if found is None:
        return Told(telling_rows(plain, name))
    others = [other for other in free_names(claim) if other != name]
    return Untold([(other, found.get(other, 0)) for other in others], found[name], found[SECOND])


def without(claim, names):
    claim = need_claim(claim, "claim")
    need_unlike_names(names, "names")
    return told_shortly(strike_all(plain_in(claim, True), list(names)))


def between(one, other):
    one = need_claim(one, "one")
    other = need_claim(other, "other")
    if setting_apart(one, other) is not None:
        raise Misfit("other")
    kept = free_names(other)
    gone = [name for name in free_names(one) if name not in kept]
    return told_shortly(strike_all(plain_in(one, True), gone))
