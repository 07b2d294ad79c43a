"""Whether a name is told in a claim: whether at most one number is right for it, and which rows tell it."""

from claimduel.atoms import contrary_literal, slim
from claimduel.marks import period_in
from claimduel.settings import right_setting
from claimduel.shapes import free_names
from claimduel.spreads import changed, joint, put_form, settle
from claimduel.striking import SIDES, points_by
from claimduel.sums import form_sum, form_times

# No name that can be passed, so it stands in no claim.
SECOND = "0"


def two_right(claim, name):
    """A setting as a dict at which two numbers are right for a name, the greater one told for SECOND.

    None if there is none; it tells all other names that are free in the settled claim.
    """
    form = (0, ((SECOND, 1),))
    other = changed(claim, lambda literal: put_form(literal, name, form))
    ahead = ("below", (0, ((SECOND, -1), (name, 1))))
    found = right_setting(settle(joint("and", [claim, other, ahead])), (name, SECOND) + free_names(claim))
    return None if found is None else dict(found)


def telling_rows(claim, name):
    """Rows ("at", d, form) that tell a name that is told in a settled claim.

    No number far out is right, so some number is right only at the points that stand for it.
    """
    period = period_in(claim, name)
    options = [points_by(claim, name, side, period) for side in SIDES]
    return [("at", d, form) for d, form in min(options, key=len)]


def is_given(row, name):
    """A settled comparison that says that the name has the number that a row ("at", d, form) gives."""
    _, d, form = row
    return slim(("zero", form_sum((0, ((name, d),)), form_times(form, -1))))


def setting_untold(claim, rows, name):
    """A setting at which a number is right for the name that none of the rows gives; None if there is none."""
    bars = [contrary_literal(is_given(row, name)) for row in rows]
    claim = settle(joint("and", [claim] + bars))
    return right_setting(claim, free_names(claim))
