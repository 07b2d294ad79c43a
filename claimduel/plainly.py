"""Claims made plain from the inside outwards, and numbers put in for their names."""

from claimduel.atoms import contrary_literal, slim
from claimduel.countings import count_plainly
from claimduel.shapes import NO, YES, own_form, parts_of, rebuilt
from claimduel.spreads import joint, settle
from claimduel.striking import strike_all, strike_endless
from claimduel.thinning import DUAL, turned


def form_by(form, table):
    """The form with the numbers put in that a dict tells."""
    constant, pairs = form
    constant += sum([factor * table[name] for name, factor in pairs if name in table])
    return (constant, tuple([pair for pair in pairs if pair[0] not in table]))


def with_numbers(claim, table):
    """The claim with the numbers put in that a dict tells, wherever their names stand free."""
    parts = []
    for part, bound in parts_of(claim):
        inner = {name: table[name] for name in table if name != bound} if bound in table else table
        parts.append(with_numbers(part, inner))
    form = own_form(claim)
    return rebuilt(claim, None if form is None else form_by(form, table), parts)


def plain_in(claim, wanted):
    """A settled spread claim that is alike to any claim, or to its contrary if it is not wanted."""
    label = claim[0]
    if label == "not":
        return plain_in(claim[1], not wanted)
    if label in DUAL:
        return plain_joint(label if wanted else DUAL[label], claim[1:], wanted)
    if label in ("some", "all"):
        return plain_bound(claim, wanted)
    if label == "endless":
        return turned_unless(wanted, strike_endless(plain_in(claim[2], True), claim[1]))
    if label == "count":
        _, kind, form, rows = claim
        settled_rows = [(factor, name, plain_in(part, True)) for factor, name, part in rows]
        return count_plainly(kind, form, settled_rows, wanted)
    literal = slim(claim)
    return literal if wanted else contrary_literal(literal)


def is_so_by(claim, table):
    """Whether a claim is so, by a dict that tells all its free names."""
    return plain_in(with_numbers(claim, table), True) == YES


def right_in(claim, name, table, wanted):
    """A settled claim of one name: that a claim, or its contrary, is so with it, and with the numbers of a dict."""
    others = {other: table[other] for other in table if other != name}
    return plain_in(with_numbers(claim, others), wanted)


def turned_unless(wanted, claim):
    return claim if wanted else settle(turned(claim))


def plain_joint(label, claims, wanted):
    """The "and" or the "or" of claims, or of their contraries, made plain."""
    absorbing = NO if label == "and" else YES
    parts = []
    for claim in claims:
        part = plain_in(claim, wanted)
        if part == absorbing:
            return absorbing
        parts.append(part)
    return settle(joint(label, parts))


def plain_bound(claim, wanted):
    """A row of "some", or of "all", one right within the other, made plain: all its names are struck together."""
    label, names = claim[0], []
    while claim[0] == label:
        names.append(claim[1])
        claim = claim[2]
    # All are so exactly if it is not so that some are not.
    found = strike_all(plain_in(claim, label == "some"), names)
    return turned_unless(wanted == (label == "some"), found)
