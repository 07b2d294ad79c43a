"""Claims: which values are claims, what is free in them, and claims made of others."""

from claimduel.checks import is_integer, is_list, is_name, is_within, need_name
from claimduel.errors import BadClaim, Misfit
from claimduel.forms import is_form, need_form
from claimduel.papers import fixed
from claimduel.shapes import BINDERS, COMPARISONS, claim_put, contrary_of, every_part
from claimduel.shapes import free_names, is_caught, joined, parts_of, size_in

PLAIN = ("yes", "no", "below", "zero", "rests", "not", "and", "or")
MOST_ROWS = 4


def are_count_rows(value):
    """Whether these may be the rows of a count comparison; their claims are not looked at."""
    if not is_list(value) or not 1 <= len(value) <= MOST_ROWS:
        return False
    for row in value:
        if not is_list(row) or len(row) != 3:
            return False
        if not is_integer(row[0]) or row[0] == 0 or not is_name(row[1]):
            return False
    return True


def is_kind(value):
    return isinstance(value, str) and value in COMPARISONS


def is_top(value):
    """Whether a value is a claim if the claims right within it are claims."""
    if not is_list(value) or len(value) == 0 or not isinstance(value[0], str):
        return False
    label, many = value[0], len(value)
    if label in ("yes", "no"):
        return many == 1
    if label in COMPARISONS:
        return many == 2 and is_form(value[1])
    if label == "rests":
        return many == 3 and is_within(value[1], 2, None) and is_form(value[2])
    if label == "not":
        return many == 2
    if label in ("and", "or"):
        return many >= 3
    if label in BINDERS:
        return many == 3 and is_name(value[1])
    if label == "count":
        return many == 4 and is_kind(value[1]) and is_form(value[2]) and are_count_rows(value[3])
    return False


def is_claim(value):
    waiting = [(value, ())]
    while waiting:
        claim, bound = waiting.pop()
        if not is_top(claim):
            return False
        for part, name in parts_of(claim):
            if name in bound:
                return False
            waiting.append((part, bound if name is None else bound + (name,)))
    return True


def is_plain(value):
    return is_claim(value) and all([part[0] in PLAIN for part, _ in every_part(value)])


def need_claim(value, part):
    """The claim with tuples throughout."""
    if not is_claim(value):
        raise BadClaim(part)
    return fixed(value)


def need_plain(value, part):
    """The plain claim with tuples throughout."""
    if not is_plain(value):
        raise BadClaim(part)
    return fixed(value)


def need_claims(value, part):
    """The tuple of the claims of a list, with tuples throughout."""
    if not is_list(value) or not all([is_claim(claim) for claim in value]):
        raise BadClaim(part)
    return fixed(value)


def free_in(claim):
    return free_names(need_claim(claim, "claim"))


def levels_of(claim):
    # Names that are bound one within the other are unlike, and each level binds one.
    return max([len(bound) for _, bound in every_part(need_claim(claim, "claim"))])


def size_of(claim):
    return size_in(need_claim(claim, "claim"))


def put_in(claim, name, form):
    claim = need_claim(claim, "claim")
    need_name(name, "name")
    form = need_form(form, "form")
    if is_caught(claim, name, form):
        raise Misfit("form")
    return claim_put(claim, name, form)


def both(claims):
    return joined("and", need_claims(claims, "claims"))


def either(claims):
    return joined("or", need_claims(claims, "claims"))


def contrary(claim):
    return contrary_of(need_claim(claim, "claim"))
