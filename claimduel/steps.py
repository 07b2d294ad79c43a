"""Rows of steps: (first, last, step), None for an end that is not there."""

from math import gcd

from claimduel.checks import is_integer, is_list, is_within
from claimduel.rests import multiple_of, rest_of_both

MOST_ROWS = 1000


def is_steps(value):
    """Whether any value is a row of steps."""
    if not is_list(value) or len(value) != 3 or not is_within(value[2], 1, None):
        return False
    first, last, step = value
    if first is None or last is None:
        return is_integer(first) or is_integer(last)
    if not is_integer(first) or not is_integer(last):
        return False
    return first <= last and (last - first) % step == 0


def rest_in(row):
    """The rest by its step that all numbers of a row leave."""
    return (row[1] if row[0] is None else row[0]) % row[2]


def has_in(row, number):
    first, last, step = row
    if first is not None and number < first or last is not None and number > last:
        return False
    return number % step == rest_in(row)


def many_in_row(row):
    """How many numbers a row with both ends has."""
    return (row[1] - row[0]) // row[2] + 1


def turned_row(row):
    """The row of the same numbers with their signs turned."""
    first, last, step = row
    return (None if last is None else -last, None if first is None else -first, step)


def is_clear(one, other):
    """Whether one row ends before the other one begins, or behind its end."""
    if one[1] is not None and other[0] is not None and one[1] < other[0]:
        return True
    return other[1] is not None and one[0] is not None and other[1] < one[0]


def common_row(one, other):
    """The row of the numbers that are in both rows; None if there is none."""
    if is_clear(one, other):
        return None
    both = rest_of_both((rest_in(one), one[2]), (rest_in(other), other[2]))
    if both is None:
        return None
    rest, step = both
    firsts = [row[0] for row in (one, other) if row[0] is not None]
    lasts = [row[1] for row in (one, other) if row[1] is not None]
    first = last = None
    if firsts:
        first = max(firsts) + (rest - max(firsts)) % step
    if lasts:
        last = min(lasts) - (min(lasts) - rest) % step
    if first is not None and last is not None and first > last:
        return None
    return (first, last, step)


def in_order(rows):
    """The rows: first those without a first number, by their last one, then the others by their first one."""
    ahead = sorted([(row[1], row[2]) for row in rows if row[0] is None])
    behind = sorted([row[0] for row in rows if row[0] is not None])
    table = {row[0]: row for row in rows}
    return tuple([(None, last, step) for last, step in ahead] + [table[first] for first in behind])


def are_unlike(rows):
    """Whether rows of one rest by one step have no number in common."""
    ahead = [row for row in rows if row[0] is None]
    firsts = [row[0] for row in rows if row[0] is not None]
    if len(ahead) > 1 or len({first: True for first in firsts}) != len(firsts):
        return False
    ordered = in_order(rows)
    return not any([one[1] is None or one[1] >= other[0] for one, other in zip(ordered, ordered[1:])])


def are_apart(rows):
    """Whether no number is in two of these rows."""
    groups = {}
    for row in rows:
        groups.setdefault((row[2], rest_in(row)), []).append(row)
    if not all([are_unlike(groups[key]) for key in groups]):
        return False
    meeting = Meeting(rows)
    for row in rows:
        # Rows of one step were compared above, and of unlike ones the lesser is looked for.
        if any([common_row(row, other) is not None for other in meeting.near(row, row[2] - 1)]):
            return False
    return True


def is_layout(value):
    """Whether any value is a list of at most 1,000 rows of steps that is a layout."""
    if not is_list(value) or len(value) > MOST_ROWS or not all([is_steps(row) for row in value]):
        return False
    return are_apart([tuple(row) for row in value])


def by_steps(rows):
    """Rows by their steps: a dict of lists."""
    groups = {}
    for row in rows:
        groups.setdefault(row[2], []).append(row)
    return groups


def hull_of(rows):
    """A row of all numbers from the first to the last one of these rows."""
    firsts, lasts = [row[0] for row in rows], [row[1] for row in rows]
    return (None if None in firsts else min(firsts), None if None in lasts else max(lasts), 1)


class Meeting:
    """Rows in which those are found at once that may have a number in common with another row."""

    def __init__(self, rows):
        self.groups = by_steps(rows)
        self.steps = sorted(self.groups)
        self.hulls = {step: hull_of(self.groups[step]) for step in self.groups}
        # (step, m): {rest: rows of this step that leave it by m, which divides the step}
        self.tables = {}

    def near(self, row, greatest):
        """Those that may meet this row, of the steps up to the greatest one."""
        found, rest = [], rest_in(row)
        for step in self.steps:
            if step > greatest:
                return found
            if is_clear(self.hulls[step], row):
                continue
            m = gcd(step, row[2])
            if (step, m) not in self.tables:
                self.tables[step, m] = self.table_by(step, m)
            found.extend(self.tables[step, m].get(rest % m, []))
        return found

    def table_by(self, step, m):
        table = {}
        for other in self.groups[step]:
            table.setdefault(rest_in(other) % m, []).append(other)
        return table

    def common(self, row):
        """The rows of what the row has in common with each of these."""
        if not self.steps:
            return []
        rows = [common_row(row, other) for other in self.near(row, self.steps[-1])]
        return [other for other in rows if other is not None]


def many_up_to(row, end):
    """How many numbers a row with a first one has up to an end."""
    first, last, step = row
    last = end if last is None else min(last, end)
    return 0 if last < first else (last - first) // step + 1


def is_covered(row, parts):
    """Whether each number of a row is in one of these parts of it, none of which have a number in common."""
    if row[0] is None:
        return is_covered(turned_row(row), [turned_row(part) for part in parts])
    first, last, step = row
    ends = [first] if last is None else [first, last]
    for part in parts:
        ends.append(part[0] if part[1] is None else part[1])
    end = max(ends)
    if sum([many_up_to(part, end) for part in parts]) != many_up_to(row, end):
        return False
    if last is not None:
        return True
    # Farther out each part without end has one number of so many of the row.
    shares = [part[2] // step for part in parts if part[1] is None]
    whole = multiple_of(shares)
    return sum([whole // share for share in shares]) == whole


def is_within_rows(rows, others):
    """Whether each number of these rows is in one of the other ones; both are layouts."""
    meeting = Meeting(others)
    return all([is_covered(row, meeting.common(row)) for row in rows])


def uncovered_in(row, parts):
    """The first number of a row with a first one that is in none of these parts of it; None if there is none.

    The parts have ends, and no number in common.
    """
    first, last, step = row
    if last is None:
        last = max([part[1] for part in parts], default=first) + step
    low, high = 0, (last - first) // step
    if sum([many_up_to(part, last) for part in parts]) > high:
        return None
    while low < high:
        middle = (low + high) // 2
        end = first + middle * step
        if sum([many_up_to(part, end) for part in parts]) <= middle:
            high = middle
        else:
            low = middle + 1
    return first + low * step


def outside_of(row, meeting):
    """A number of a row that is in none of other rows, None if there is none; the row or all others have their ends."""
    if row[0] is None:
        found = uncovered_in(turned_row(row), [turned_row(part) for part in meeting.common(row)])
        return None if found is None else -found
    return uncovered_in(row, meeting.common(row))


def apart_in(rows, others):
    """A number that is in just one of two layouts, one of which has no end that lacks; None if there is none."""
    for ones, meeting in ((rows, Meeting(others)), (others, Meeting(rows))):
        for row in ones:
            found = outside_of(row, meeting)
            if found is not None:
                return found
    return None
