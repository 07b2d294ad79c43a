"""Count comparisons over plain claims, made plain."""

from claimduel.claims import are_count_rows, is_kind, is_plain
from claimduel.countings import count_plainly
from claimduel.errors import BadClaim
from claimduel.forms import need_form
from claimduel.papers import fixed
from claimduel.spreads import told_shortly
from claimduel.thinning import settled_whole


def counted(kind, form, rows):
    if not is_kind(kind):
        raise BadClaim("kind")
    form = need_form(form, "form")
    if not are_count_rows(rows) or not all([is_plain(row[2]) for row in rows]):
        raise BadClaim("rows")
    settled_rows = [(factor, name, settled_whole(claim)) for factor, name, claim in fixed(rows)]
    return told_shortly(count_plainly(kind, form, settled_rows, True))
