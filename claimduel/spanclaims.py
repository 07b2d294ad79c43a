"""Short claims that say what spans say: as few bounds and divisions as can be found at once."""

from math import isqrt

from claimduel.shapes import NO, YES, joined
from claimduel.spans import bits_of, every_nth, full_mask, kept_mask, pieces_of, turned_by


def divisors_of(m):
    """The divisors of m, ascending."""
    low = [step for step in range(1, isqrt(m) + 1) if m % step == 0]
    return low + [m // step for step in reversed(low) if step * step != m]


def least_period(mask, m):
    """The least divisor of m by which the mask repeats."""
    for step in divisors_of(m):
        if turned_by(mask, m, step) == mask:
            return step
    return m


def repeated(mask, m, low, many):
    """The bits of so many numbers from low on, by a mask."""
    rounds = many // m + 1
    return turned_by(mask, m, low) * every_nth(rounds * m, m, 0) & full_mask(many)


def classes_in(mask, m):
    """Pairs (rest, step), step dividing m, of just the rests in the mask: great ones first."""
    left, found = mask, []
    for step in divisors_of(m):
        for start in range(step):
            if left == 0:
                return found
            here = every_nth(m, step, start)
            if here & mask == here and here & left != 0:
                found.append((start, step))
                left &= ~here
    return found


def division(pair, name):
    return ("rests", pair[1], (-pair[0] % pair[1], ((name, 1),)))


def claim_of_mask(mask, m, name):
    """A spread claim that says of the name that its rest by m is in the mask, which has the least period m."""
    if m == 1:
        return YES if mask else NO
    right, wrong = classes_in(mask, m), classes_in(mask ^ full_mask(m), m)
    if len(right) <= len(wrong):
        return joined("or", [division(pair, name) for pair in right])
    return joined("and", [("not", division(pair, name)) for pair in wrong])


def from_claim(low, name):
    return ("below", (low - 1, ((name, -1),)))


def below_claim(high, name):
    return ("below", (-high, ((name, 1),)))


def bounds_claim(low, high, name):
    """The literals that say that the name is from low to below high, None for no end."""
    if low is not None and high == low + 1:
        return [("zero", (-low, ((name, 1),)))]
    found = [] if low is None else [from_claim(low, name)]
    return found + ([] if high is None else [below_claim(high, name)])


def gap_claims(low, high, name):
    """The literals, one of which is so if the name is not from low to below high."""
    if high == low + 1:
        return [("not", ("zero", (-low, ((name, 1),))))]
    return [below_claim(low, name), from_claim(high, name)]


def claim_of_stretches(stretches, name):
    """A spread claim that says that the name is in one of the ascending pairs (low, high)."""
    within = [bounds_claim(low, high, name) for low, high in stretches]
    gaps = [gap_claims(one[1], other[0], name) for one, other in zip(stretches, stretches[1:])]
    around = bounds_claim(stretches[0][0], stretches[-1][1], name)
    if sum([len(row) for row in within]) <= len(around) + sum([len(row) for row in gaps]):
        return joined("or", [joined("and", row) for row in within])
    return joined("and", around + [joined("or", row) for row in gaps])


def settled_piece(piece, m):
    """The quadruple (low, high, mask, m) of a piece by its least period, None for one too short for it."""
    low, high, mask = piece
    if low is None or high is None or high - low >= m:
        least = least_period(mask, m)
        return (low, high, mask & full_mask(least), least)
    seen = turned_by(mask, m, low) & full_mask(high - low)
    for step in range(1, (high - low) // 2 + 1):
        if seen >> step == seen & full_mask(high - low - step):
            return (low, high, turned_by(seen & full_mask(step), step, -low), step)
    return None


def parted(spans):
    """The long pieces of spans, and the short ones ahead of each of them and at last, as triples (low, many, bits)."""
    m = spans[0]
    longs, shorts = [], [(None, 0, 0)]
    for piece in pieces_of(spans):
        long_one = settled_piece(piece, m)
        if long_one is not None:
            longs.append(long_one)
            shorts.append((piece[1], 0, 0))
            continue
        low, many, bits = shorts[-1]
        seen = turned_by(kept_mask(piece, m), m, piece[0]) & full_mask(piece[1] - piece[0])
        shorts[-1] = (low, many + piece[1] - piece[0], bits | seen << many)
    return longs, shorts


def runs_of(low, many, bits):
    """The stretches of right numbers among many from low on, as pairs (low, high)."""
    found = []
    for at in bits_of(bits) if many else []:
        if found and found[-1][1] == low + at:
            found[-1] = (found[-1][0], low + at + 1)
        else:
            found.append((low + at, low + at + 1))
    return found


def drawn_in(one, short, other):
    """Where the long piece ahead of a short one may end, and the one behind it may begin."""
    low, many, bits = short
    unlike = bits ^ repeated(one[2], one[3], low, many)
    ahead = many if unlike == 0 else (unlike & -unlike).bit_length() - 1
    behind = (bits ^ repeated(other[2], other[3], low, many)).bit_length()
    return low + ahead, low + max(ahead, behind)


def settled_pieces(spans):
    """Quadruples (low, high, mask, m) of all numbers that are right, as long as they can be; ascending."""
    longs, shorts = parted(spans)
    here, found = longs[0], []
    for short, other in zip(shorts[1:-1], longs[1:]):
        end, begin = drawn_in(here, short, other)
        low, many, bits = short
        if end == begin and here[2:] == other[2:]:
            here = here[:1] + other[1:]
            continue
        found.append((here[0], end) + here[2:])
        middle = bits >> (end - low) & full_mask(begin - end)
        found.extend([(one, two, 1, 1) for one, two in runs_of(end, begin - end, middle)])
        here = (begin,) + other[1:]
    return found + [here]


def claim_of_spans(spans, name):
    """A spread claim that says of the name what the spans say."""
    groups = {}
    for low, high, mask, m in settled_pieces(spans):
        if mask != 0:
            groups.setdefault((m, mask), []).append((low, high))
    claims = []
    for m, mask in groups:
        stretches = claim_of_stretches(touching(groups[m, mask]), name)
        parts = []
        for part in (claim_of_mask(mask, m, name), stretches):
            parts.extend(part[1:] if part[0] == "and" else [part])
        parts = [part for part in parts if part != YES]
        claims.append(joined("and", parts))
    flat = []
    for claim in claims:
        flat.extend(claim[1:] if claim[0] == "or" else [claim])
    return joined("or", flat)


def touching(stretches):
    """The stretches with those made one that have nothing between them."""
    found = []
    for low, high in stretches:
        if found and found[-1][1] == low:
            found[-1] = (found[-1][0], high)
        else:
            found.append((low, high))
    return found
