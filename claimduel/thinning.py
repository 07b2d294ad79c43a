"""Plain claims made less: spread, so that nots stand at literals alone; settled; and packed again."""

from claimduel.atoms import contrary_literal, slim
from claimduel.facts import Facts
from claimduel.shapes import NO, YES, every_part, joined, own_form, size_in

DUAL = {"and": "or", "or": "and"}
MOST_ROUNDS = 4


def parts_for(label, claim):
    """The parts of a claim of this label; a claim of another label is its own only part."""
    return list(claim[1:]) if claim[0] == label else [claim]


def spread(plain, wanted):
    """The claim, or its contrary if it is not wanted, of "and", "or" and literals."""
    label = plain[0]
    if label == "not":
        return spread(plain[1], not wanted)
    if label not in DUAL:
        literal = slim(plain)
        return literal if wanted else contrary_literal(literal)
    label = label if wanted else DUAL[label]
    parts = []
    for part in plain[1:]:
        parts.extend(parts_for(label, spread(part, wanted)))
    return joined(label, parts)


def turned(claim):
    """The contrary of a spread claim, spread."""
    if claim[0] not in DUAL:
        return contrary_literal(claim)
    parts = []
    for part in claim[1:]:
        parts.append(turned(part))
    return (DUAL[claim[0]], *parts)


def settled(claim, known):
    """A spread claim that is alike to a spread one wherever the known facts are so."""
    if claim[0] == "and":
        return settled_and(claim, known)
    if claim[0] == "or":
        return turned(settled_and(turned(claim), known))
    told = known.tell(claim)
    if told is None:
        return claim
    return YES if told else NO


def is_noted(literal, known, own):
    """Adds a literal to what is known, and to what is told here; False if it cannot be so."""
    told = known.tell(literal)
    if told is None:
        known.note(literal)
        own.note(literal)
    return told is not False


def settled_and(claim, known):
    known, own = known.twin(), Facts()
    literals = [part for part in claim[1:] if part[0] not in DUAL]
    # Comparisons come first, as they may tell a division.
    divisions = [part for part in literals if is_division(part)]
    for part in [part for part in literals if not is_division(part)] + divisions:
        if not is_noted(part, known, own):
            return NO
    rest = []
    for part in [part for part in claim[1:] if part[0] in DUAL]:
        for piece in parts_for("and", settled(part, known)):
            if piece[0] in DUAL:
                rest.append(piece)
            elif not is_noted(piece, known, own):
                return NO
    return joined("and", own.literals() + unlike(rest))


def is_division(literal):
    return literal[0] == "rests" or (literal[0] == "not" and literal[1][0] == "rests")


def key_of(claim):
    """A flat key by which spread claims are told apart, however deep they are."""
    key = []
    for part, _ in every_part(claim):
        key.append((part[0], len(part), part[1] if part[0] == "rests" else 0, own_form(part)))
    return tuple(key)


def unlike(claims):
    """The unlike ones of some claims, in order."""
    found = {}
    for claim in claims:
        found[key_of(claim)] = claim
    return list(found.values())


def packed(claim):
    """The pair of a claim of least size that says what a spread one says, and of its contrary.

    Each one is a pair of the claim and its size.
    """
    if claim[0] not in DUAL:
        contrary = contrary_literal(claim)
        return (claim, size_in(claim)), (contrary, size_in(contrary))
    ones, others = [], []
    for part in claim[1:]:
        one, other = packed(part)
        ones.append(one)
        others.append(other)
    return least_joined(claim[0], ones, others), least_joined(DUAL[claim[0]], others, ones)


def least_joined(label, parts, contraries):
    """The claim of this label with these parts, and its size: with those in a not for which it saves most."""
    pairs = list(zip(parts, contraries))
    greater = [other for one, other in pairs if one[1] > other[1]]
    others = [one for one, other in pairs if one[1] <= other[1]]
    found = grouped(label, parts, [])
    for option in (grouped(label, others, greater), grouped(label, [], contraries)):
        if option[1] < found[1]:
            found = option
    return found


def grouped(label, around, within):
    """The claim of this label, of parts that stand so and of the contraries of others, and its size."""
    claims = [claim for claim, _ in around]
    labels = 1 if within else 0
    if within:
        claims.append(("not", joined(DUAL[label], [claim for claim, _ in within])))
    labels += (1 if len(within) > 1 else 0) + (1 if len(claims) > 1 else 0)
    return joined(label, claims), labels + sum([size for _, size in around + within])


def thin(plain):
    """As thinned, for what is known to be a plain claim of tuples."""
    claim = settled_whole(plain)
    found, size = packed(claim)[0]
    return found if size <= size_in(plain) else plain


def settled_whole(plain):
    """A spread claim that is alike to a plain one."""
    claim = spread(plain, True)
    for _ in range(MOST_ROUNDS):
        less = settled(claim, Facts())
        if less == claim:
            return claim
        claim = less
    return claim
