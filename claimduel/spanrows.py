"""Rows of steps that have just the numbers that spans tell."""

from claimduel.spanclaims import settled_pieces
from claimduel.spans import bits_of, many_bits


def steps_for(piece, rest):
    """The rows of the numbers of a piece (low, high, mask, m) that leave the rest by m."""
    low, high, _, m = piece
    if low is None and high is None:
        return [(None, rest - m, m), (rest, None, m)]
    first = None if low is None else low + (rest - low) % m
    last = None if high is None else high - 1 - (high - 1 - rest) % m
    if first is not None and last is not None and first > last:
        return []
    return [(first, last, m)]


def rows_in_spans(spans, most):
    """The rows; None if there are more than most."""
    pieces = settled_pieces(spans)
    if sum([many_bits(mask) for _, _, mask, _ in pieces]) > most:
        return None
    rows = []
    for piece in pieces:
        for rest in bits_of(piece[2]):
            rows.extend(steps_for(piece, rest))
    return rows if len(rows) <= most else None
