"""Claims taken apart and put together again, where they are known to be claims.

What only looks at a claim follows a list of what waits, not calls within calls:
so deep claims are no trouble.
"""

from claimduel.sums import factor_in, form_put

YES = ("yes",)
NO = ("no",)
COMPARISONS = ("below", "zero")
BINDERS = ("all", "some", "endless")


def parts_of(claim):
    """The pairs of a claim that is right within this one, and the name bound in it or None."""
    label = claim[0]
    if label == "not":
        return [(claim[1], None)]
    if label in ("and", "or"):
        return [(part, None) for part in claim[1:]]
    if label in BINDERS:
        return [(claim[2], claim[1])]
    if label == "count":
        return [(part, name) for _, name, part in claim[3]]
    return []


def own_form(claim):
    """The form that stands in the claim itself, None if there is none."""
    if claim[0] in COMPARISONS:
        return claim[1]
    if claim[0] in ("rests", "count"):
        return claim[2]
    return None


def rebuilt(claim, form, parts):
    """The claim with another form, and other claims right within it."""
    label = claim[0]
    if label in COMPARISONS:
        return (label, form)
    if label == "rests":
        return (label, claim[1], form)
    if label in ("not", "and", "or"):
        return (label, *parts)
    if label in BINDERS:
        return (label, claim[1], parts[0])
    if label == "count":
        rows = [(row[0], row[1], part) for row, part in zip(claim[3], parts)]
        return (label, claim[1], form, tuple(rows))
    return claim


def every_part(claim):
    """The pairs of each claim in this one, itself too, and the tuple of the names bound around."""
    found = []
    waiting = [(claim, ())]
    while waiting:
        here, bound = waiting.pop()
        found.append((here, bound))
        for part, name in parts_of(here):
            waiting.append((part, bound if name is None else bound + (name,)))
    return found


def every_form(claim):
    """The pairs of each form in a claim, and the tuple of the names bound around."""
    placed = [(own_form(part), bound) for part, bound in every_part(claim)]
    return [(form, bound) for form, bound in placed if form is not None]


def free_names(claim):
    """The free names, ascending."""
    names = {}
    for form, bound in every_form(claim):
        for name, _ in form[1]:
            if name not in bound:
                names[name] = True
    return tuple(sorted(names))


def size_in(claim):
    """How many labels and forms are in a claim."""
    parts = every_part(claim)
    return len(parts) + len([part for part, _ in parts if own_form(part) is not None])


def is_caught(claim, name, form):
    """Whether a name of the form is bound around a place where the other name stands free."""
    for here, bound in every_form(claim):
        if name not in bound and factor_in(here, name) != 0:
            if any([other in bound for other, _ in form[1]]):
                return True
    return False


def claim_put(claim, name, form):
    """The claim with the form put in for the name wherever it stands free."""
    parts = []
    for part, bound in parts_of(claim):
        parts.append(part if bound == name else claim_put(part, name, form))
    here = own_form(claim)
    return rebuilt(claim, None if here is None else form_put(here, name, form), parts)


def joined(label, parts):
    """The "and" or the "or" of a list of claims, in order; yes or no for none of them."""
    if len(parts) == 1:
        return parts[0]
    if len(parts) == 0:
        return YES if label == "and" else NO
    return (label, *parts)


def contrary_of(claim):
    return claim[1] if claim[0] == "not" else ("not", claim)
