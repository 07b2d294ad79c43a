"""Count comparisons made plain, where the claims in their rows are spread and settled."""

from claimduel.atoms import contrary_literal, slim
from claimduel.counting import count_pieces
from claimduel.rests import multiple_of
from claimduel.shapes import NO, YES
from claimduel.spreads import joint, settle, shorter
from claimduel.striking import strike_endless
from claimduel.sums import form_sum, form_times


def sums_of_rows(rows):
    """Triples (guard, d, form): where a guard is so, the rows add form / d together."""
    found = [(YES, 1, (0, ()))]
    for factor, name, claim in rows:
        longer = []
        for guard, d, form in count_pieces(claim, name):
            for other, by, total in found:
                here = settle(joint("and", [other, guard]))
                if here != NO:
                    whole = multiple_of([d, by])
                    added = form_times(form, factor * (whole // d))
                    longer.append((here, whole, form_sum(form_times(total, whole // by), added)))
        found = longer
    return found


def count_plainly(kind, form, rows, wanted):
    """A settled claim that is alike to a count comparison, or to its contrary if it is not wanted.

    The contrary is told by the same guards, not as the contrary of this all: it is much shorter so.
    """
    parts = []
    for guard, d, added in sums_of_rows(rows):
        literal = slim((kind, form_sum(form_times(form, d), added)))
        parts.append(settle(joint("and", [guard, literal if wanted else contrary_literal(literal)])))
    if not wanted:
        for _, name, claim in rows:
            parts.append(strike_endless(claim, name))
    return shorter(settle(joint("or", parts)))
