"""Books: rows that tell the numbers that a hand names."""

from claimduel.bookings import claim_by_row, is_fitting, naming_places
from claimduel.checks import are_integers, is_list, need_name, need_number, need_told
from claimduel.claims import need_claim
from claimduel.duels import need_duel
from claimduel.errors import BadBook, BadRow, Misfit, Over
from claimduel.papers import fixed
from claimduel.plain import is_right
from claimduel.plainly import plain_in, right_in
from claimduel.rows import is_row, names_in_row, need_row, told_by_row
from claimduel.rowsets import rows_of
from claimduel.shapes import contrary_of, every_part, joined, own_form, parts_of, rebuilt


def given_by(row, name):
    row = need_row(row, "row")
    need_name(name, "name")
    if name in names_in_row(row):
        raise Misfit("name")
    return claim_by_row(row, name)


def is_entry(value):
    """Whether it is a pair (place, list of rows)."""
    if not is_list(value) or len(value) != 2 or not is_list(value[1]):
        return False
    if not are_integers(value[0]) or not all([index >= 0 for index in value[0]]):
        return False
    return all([is_row(row) for row in value[1]])


def are_entries(value):
    """Whether any value is a list of pairs (place, list of rows) with unlike places."""
    if not is_list(value) or not all([is_entry(entry) for entry in value]):
        return False
    return len({tuple(entry[0]): True for entry in value}) == len(value)


class Book:
    def __init__(self, hand, rows):
        need_number(hand, "hand", 0, 1)
        if not are_entries(rows):
            raise BadRow("rows")
        table = {place: told for place, told in fixed(rows)}
        self.hand = hand
        self.rows = tuple([(place, table[place]) for place in sorted(table)])

    def __eq__(self, other):
        return isinstance(other, Book) and self.hand == other.hand and self.rows == other.rows


def need_book(value, part):
    if not isinstance(value, Book):
        raise BadBook(part)


def need_bookable(claim):
    """Misfit for a claim with a count comparison or endless."""
    if any([part[0] in ("count", "endless") for part, _ in every_part(claim)]):
        raise Misfit("claim")


def book_for(claim, hand):
    claim = need_claim(claim, "claim")
    need_number(hand, "hand", 0, 1)
    need_bookable(claim)
    rows = []
    for place, here, _ in naming_places(claim, hand):
        rows.append((place, rows_of(plain_in(here[2], here[0] == "some"), here[1])))
    return Book(hand, rows)


def write_in(claim, place, table):
    """The claim that stands at a place with the rows that a dict has for places written in."""
    parts = []
    for index, (part, _) in enumerate(parts_of(claim)):
        parts.append(write_in(part, place + (index,), table))
    if place not in table:
        return rebuilt(claim, own_form(claim), parts)
    label, name, _ = claim
    told = joined("or", [claim_by_row(row, name) for row in table[place]])
    if label == "some":
        return (label, name, ("and", told, parts[0]))
    return (label, name, ("or", contrary_of(told), parts[0]))


def written(claim, book):
    claim = need_claim(claim, "claim")
    need_book(book, "book")
    need_bookable(claim)
    if not is_fitting(claim, book.hand, book.rows):
        raise Misfit("book")
    return write_in(claim, (), dict(book.rows))


def first_winning(duel, rows):
    """The first number that these rows give by which the hand can win; without one, the first one that they give."""
    _, name, part = duel.claim
    right = right_in(part, name, dict(duel.setting), duel.turn == duel.keeper)
    first = None
    for row in rows:
        need_told(names_in_row(row), duel.known)
        number = told_by_row(row, duel.known)
        if number is not None and is_right(right, {name: number}):
            return number
        first = number if first is None else first
    return first


def by_book(duel, book):
    need_duel(duel, "duel")
    need_book(book, "book")
    if duel.kind == "over":
        raise Over()
    table = dict(book.rows)
    if duel.kind != "name" or duel.claim[0] == "endless" or duel.turn != book.hand or duel.place not in table:
        raise Misfit("place")
    number = first_winning(duel, table[duel.place])
    return None if number is None else ("name", number)
