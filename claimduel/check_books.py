"""Whether a book wins."""

from claimduel.bookings import is_fitting, wins_all
from claimduel.books import Book, need_bookable
from claimduel.checks import need_setting, need_told
from claimduel.claims import need_claim
from claimduel.shapes import free_names


def shows_book(claim, setting, value):
    claim = need_claim(claim, "claim")
    table = need_setting(setting, "setting")
    need_told(free_names(claim), table)
    need_bookable(claim)
    if not isinstance(value, Book) or not is_fitting(claim, value.hand, value.rows):
        return False
    return wins_all(claim, value.hand, value.rows, table)
