"""Layouts: sets of numbers, told by rows of steps."""

from claimduel.checks import need_name, need_number, need_setting, need_told
from claimduel.claims import need_plain
from claimduel.errors import BadLayout, TooMany
from claimduel.papers import fixed
from claimduel.plainly import with_numbers
from claimduel.shapes import free_names
from claimduel.spanrows import rows_in_spans
from claimduel.spans import spans_of
from claimduel.steps import MOST_ROWS, has_in, in_order, is_layout, is_within_rows, many_in_row
from claimduel.thinning import settled_whole


class Layout:
    def __init__(self, rows):
        if not is_layout(rows):
            raise BadLayout("rows")
        self.rows = in_order(fixed(rows))

    def __eq__(self, other):
        return isinstance(other, Layout) and self.rows == other.rows

    def has(self, number):
        need_number(number, "number")
        return any([has_in(row, number) for row in self.rows])

    def many(self):
        if any([row[0] is None or row[1] is None for row in self.rows]):
            return None
        return sum([many_in_row(row) for row in self.rows])

    def least(self):
        if any([row[0] is None for row in self.rows]):
            return None
        return min([row[0] for row in self.rows], default=None)

    def greatest(self):
        if any([row[1] is None for row in self.rows]):
            return None
        return max([row[1] for row in self.rows], default=None)

    def same(self, other):
        need_layout(other, "other")
        if self.rows == other.rows:
            return True
        return is_within_rows(self.rows, other.rows) and is_within_rows(other.rows, self.rows)


def need_layout(value, part):
    if not isinstance(value, Layout):
        raise BadLayout(part)


def layout_of(claim, name):
    """A Layout of the right numbers for a settled claim without other names."""
    spans = spans_of(claim, name)
    rows = None if spans is None else rows_in_spans(spans, MOST_ROWS)
    if rows is None:
        raise TooMany("rows", MOST_ROWS)
    return Layout(rows)


def right_for(plain, name, setting):
    plain = need_plain(plain, "plain")
    need_name(name, "name")
    table = need_setting(setting, "setting")
    others = {other: table[other] for other in table if other != name}
    need_told([other for other in free_names(plain) if other != name], others)
    return layout_of(settled_whole(with_numbers(plain, others)), name)
