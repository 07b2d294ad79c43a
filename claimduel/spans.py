"""What a plain claim of one name says of it, told as spans.

*Spans* are a triple (m, cuts, masks). The cuts are ascending integers; ahead of the first one, from
each one to below the next one, and from the last one on there is a mask: a number there is right
exactly if the bit of the mask that its rest by m tells is set. So all is told at once, however far
the cuts are from one another.
"""

from math import gcd

from claimduel.marks import period_in
from claimduel.rests import least_root

# Masks of so many bits are still short; a claim with a greater period has no spans.
MOST_BITS = 20000


def full_mask(m):
    return (1 << m) - 1


def every_nth(m, step, start):
    """The mask of the numbers below m that leave start by step, which divides m."""
    return full_mask(m) // full_mask(step) << start


def bits_of(mask):
    """The numbers whose bits are set, ascending."""
    signs = f"{mask:b}"
    return [at for at, sign in enumerate(signs[::-1]) if sign == "1"]


def many_bits(mask):
    signs = f"{mask:b}"
    return signs.count("1")


def turned_by(mask, m, start):
    """The mask in which bit 0 tells of start, bit 1 of start + 1, and so on."""
    by = start % m
    return mask >> by | (mask << (m - by) & full_mask(m))


def spans_of_literal(literal, m):
    """The cuts and masks of a literal with one name at most."""
    label, full = literal[0], full_mask(m)
    if label == "not":
        cuts, masks = spans_of_literal(literal[1], m)
        return cuts, tuple([mask ^ full for mask in masks])
    if label in ("yes", "no"):
        return (), (full if label == "yes" else 0,)
    constant, pairs = literal[-1]
    factor = pairs[0][1]
    if label == "rests":
        root = least_root(factor, constant, literal[1])
        step = literal[1] // gcd(literal[1], factor)
        return (), (0 if root is None else every_nth(m, step, root % step),)
    if label == "below":
        if factor > 0:
            return (-(constant // factor),), (full, 0)
        return (constant // -factor + 1,), (0, full)
    if constant % factor != 0:
        return (), (0,)
    return (-constant // factor, -constant // factor + 1), (0, full, 0)


def merged(label, one, other):
    """The cuts and masks of two, joined by "and" or "or"."""
    ones, others = one[0] + (None,), other[0] + (None,)
    cuts, masks = [], []
    at = by = 0
    while True:
        left, right = one[1][at], other[1][by]
        mask = left & right if label == "and" else left | right
        if masks and masks[-1] == mask:
            cuts.pop()
        else:
            masks.append(mask)
        low, high = ones[at], others[by]
        if low is None and high is None:
            return tuple(cuts), tuple(masks)
        cut = low if high is None or (low is not None and low <= high) else high
        at += 1 if low == cut else 0
        by += 1 if high == cut else 0
        cuts.append(cut)


def merged_all(label, rows):
    """As merged, for one or more: by pairs, so that none is gone through again and again."""
    while len(rows) > 1:
        pairs = [rows[at:at + 2] for at in range(0, len(rows), 2)]
        rows = [merged(label, pair[0], pair[1]) if len(pair) == 2 else pair[0] for pair in pairs]
    return rows[0]


def lines_of(claim, m):
    """The cuts and masks of a spread claim with one name at most."""
    if claim[0] not in ("and", "or"):
        return spans_of_literal(claim, m)
    rows = []
    for part in claim[1:]:
        rows.append(lines_of(part, m))
    return merged_all(claim[0], rows)


def spans_of(claim, name):
    """The spans of a spread claim with no name but this one; None if the period is too great."""
    m = period_in(claim, name)
    if m > MOST_BITS:
        return None
    return (m,) + lines_of(claim, m)


def is_in_spans(spans, number):
    """Whether a number is right."""
    m, cuts, masks = spans
    low, high = 0, len(cuts)
    while low < high:
        middle = (low + high) // 2
        if number < cuts[middle]:
            high = middle
        else:
            low = middle + 1
    return masks[low] >> number % m & 1 == 1


def pieces_of(spans):
    """The triples (low, high, mask): from low to below high, None for no end."""
    _, cuts, masks = spans
    return list(zip((None,) + cuts, cuts + (None,), masks))


def kept_mask(piece, m):
    """The mask of the numbers that are right in a piece, those that come to it left out."""
    low, high, mask = piece
    if low is None or high is None or high - low >= m:
        return mask
    seen = turned_by(mask, m, low) & full_mask(high - low)
    return turned_by(seen, m, -low)


def many_in(spans):
    """How many numbers are right; None for endlessly many."""
    m = spans[0]
    if spans[2][0] != 0 or spans[2][-1] != 0:
        return None
    total = 0
    for low, high, mask in pieces_of(spans)[1:-1]:
        whole, more = (high - low) // m, (high - low) % m
        total += whole * many_bits(mask) + many_bits(turned_by(mask, m, low) & full_mask(more))
    return total


def least_in_piece(piece, m):
    """The least right number of a piece with a low end and a right number."""
    low, _, mask = piece
    return low + bits_of(turned_by(mask, m, low))[0]


def greatest_in_piece(piece, m):
    """The greatest right number of a piece with a high end and a right number."""
    _, high, mask = piece
    return high - m + bits_of(turned_by(mask, m, high))[-1]


def least_in(spans):
    """The least right number; None if there is none, or none is the least."""
    m = spans[0]
    pieces = [piece for piece in pieces_of(spans) if kept_mask(piece, m) != 0]
    if not pieces or pieces[0][0] is None:
        return None
    return least_in_piece(pieces[0], m)


def greatest_in(spans):
    """The greatest right number; None if there is none, or none is the greatest."""
    m = spans[0]
    pieces = [piece for piece in pieces_of(spans) if kept_mask(piece, m) != 0]
    if not pieces or pieces[-1][1] is None:
        return None
    return greatest_in_piece(pieces[-1], m)


def some_in(spans):
    """A right number, the nearest one to the cuts: one that has least digits, mostly; None if there is none."""
    m = spans[0]
    for piece in pieces_of(spans)[1:] + pieces_of(spans)[:1]:
        if kept_mask(piece, m) == 0:
            continue
        if piece[0] is not None:
            return least_in_piece(piece, m)
        if piece[1] is not None:
            return greatest_in_piece(piece, m)
        return bits_of(piece[2])[0]
    return None
