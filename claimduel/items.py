"""The items of a text, written and read one by one."""

from claimduel.checks import DIGITS, is_name
from claimduel.errors import BadText

MOST_DIGITS = 60


def integer_from(item):
    """The integer that an item writes, None for an item that is no integer in right writing."""
    digits = item[1:] if item[:1] == "-" else item
    if not 1 <= len(digits) <= MOST_DIGITS or not all([sign in DIGITS for sign in digits]):
        return None
    if digits[0] == "0" and item != "0":
        return None
    return int(item)


class Items:
    """A text that is read from its first item on; BadText where an item cannot stand."""

    def __init__(self, text):
        if not isinstance(text, str):
            raise BadText(0, 0)
        self.row = text.split(" ")
        self.reached = 0

    def seen(self):
        """The item that comes next; None behind the last one."""
        return self.row[self.reached] if self.reached < len(self.row) else None

    def refuse(self):
        """The item that comes next cannot stand, or it is missing."""
        raise BadText(0, self.reached)

    def refuse_last(self):
        """The item that was read last cannot stand."""
        raise BadText(0, self.reached - 1)

    def read_word(self, words):
        """Reads one of these words."""
        item = self.seen()
        if item not in words:
            self.refuse()
        self.reached += 1
        return item

    def read_name(self):
        item = self.seen()
        if not is_name(item):
            self.refuse()
        self.reached += 1
        return item

    def read_integer(self):
        item = self.seen()
        number = None if item is None else integer_from(item)
        if number is None:
            self.refuse()
        self.reached += 1
        return number

    def read_end(self):
        if self.seen() is not None:
            self.refuse()
