"""Numbers that tell that a layout is not that of all right numbers."""

from claimduel.seeking import some_number
from claimduel.shapes import YES
from claimduel.spanclaims import below_claim, division, from_claim
from claimduel.spanrows import rows_in_spans
from claimduel.spans import spans_of
from claimduel.spreads import joint, settle
from claimduel.steps import apart_in, rest_in
from claimduel.thinning import turned

# So many rows may come of a claim here; one with more is looked at as a claim.
MOST_ROWS = 20000


def steps_claim(row, name):
    """A spread claim that says that the name is in a row of steps with both ends."""
    first, last, step = row
    within = YES if step == 1 else division((rest_in(row), step), name)
    return joint("and", [within, from_claim(first, name), below_claim(last + 1, name)])


def apart_from(claim, layout, name):
    """As false_at, by the claim that says so."""
    laid = joint("or", [steps_claim(row, name) for row in layout.rows])
    found = some_number(settle(joint("and", [laid, turned(claim)])), name)
    return some_number(settle(joint("and", [claim, turned(laid)])), name) if found is None else found


def false_at(layout, claim, name):
    """A number at which a layout with all its ends is not that of the right numbers; None if there is none.

    The claim is settled, and has no other name.
    """
    spans = spans_of(claim, name)
    rows = None if spans is None else rows_in_spans(spans, MOST_ROWS)
    if rows is None:
        return apart_from(claim, layout, name)
    return apart_in(layout.rows, rows)
