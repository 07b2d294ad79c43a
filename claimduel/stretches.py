"""Stretches of rules: (first, last, entries), None for an end that is not there.

The entry for an integer n is that whose index is the rest of n by how many entries there are: None
for endlessly many, or (slope, constant, d) for (slope n + constant) / d.
"""

from math import gcd

from claimduel.checks import is_integer, is_list, is_within
from claimduel.rests import multiple_of
from claimduel.spanclaims import divisors_of


def is_entry(value):
    if value is None:
        return True
    if not is_list(value) or len(value) != 3:
        return False
    return is_integer(value[0]) and is_integer(value[1]) and is_within(value[2], 1, None)


def is_stretch(value):
    if not is_list(value) or len(value) != 3 or not is_list(value[2]) or len(value[2]) == 0:
        return False
    first, last, entries = value
    if not all([end is None or is_integer(end) for end in (first, last)]):
        return False
    if first is not None and last is not None and first > last:
        return False
    return all([is_entry(entry) for entry in entries])


def first_with(first, last, rest, m):
    """The first integer of a stretch with the rest by m, or the last one if it has no first one; None for none."""
    if first is not None:
        found = first + (rest - first) % m
        return found if last is None or found <= last else None
    return rest if last is None else last - (last - rest) % m


def last_with(first, last, rest, m):
    """The last integer of a stretch that leaves the rest by m, if the stretch has an end and such an integer."""
    if last is None:
        return None
    found = last - (last - rest) % m
    return found if first is None or found >= first else None


def told_by_entry(entry, number):
    if entry is None:
        return None
    slope, constant, d = entry
    return (slope * number + constant) // d


def is_entry_right(stretch, rest):
    """Whether an entry tells an integer from 0 on at each integer for which it stands."""
    first, last, entries = stretch
    entry, many = entries[rest], len(entries)
    here = first_with(first, last, rest, many)
    if entry is None or here is None:
        return True
    slope, constant, d = entry
    if (slope * here + constant) % d != 0 or slope * here + constant < 0:
        return False
    end = last_with(first, last, rest, many)
    if here == end and first is not None:
        return True
    # More than one integer has this entry.
    if slope * many % d != 0:
        return False
    if (first is None and slope > 0) or (last is None and slope < 0):
        return False
    return end is None or slope * end + constant >= 0


def are_stretches(value):
    """Whether any value is a list of stretches that tell a rule."""
    if not is_list(value) or len(value) == 0 or not all([is_stretch(stretch) for stretch in value]):
        return False
    if value[0][0] is not None or value[-1][1] is not None:
        return False
    for one, other in zip(value, value[1:]):
        if one[1] is None or other[0] is None or other[0] != one[1] + 1:
            return False
    for stretch in value:
        if not all([is_entry_right(stretch, rest) for rest in range(len(stretch[2]))]):
            return False
    return True


def entry_by(slope, constant, d):
    """The entry (slope, constant, d), with the least d that does it."""
    common = gcd(gcd(slope, constant), d) if d > 1 else 1
    return (slope // common, constant // common, d // common) if common > 1 else (slope, constant, d)


def stretch_at(rows, number):
    """The stretch of a rule in which a number is."""
    low, high = 0, len(rows) - 1
    while low < high:
        middle = (low + high) // 2
        if number <= rows[middle][1]:
            high = middle
        else:
            low = middle + 1
    return rows[low]


def lessened(entries):
    """Entries that tell the same, as short as can be, and as few."""
    short = [None if entry is None else entry_by(*entry) for entry in entries]
    for many in divisors_of(len(short)):
        if short[many:] == short[:len(short) - many]:
            return short[:many]
    return short


def both_rows(rows, others):
    """The stretches (first, last, entries, other entries) in which neither of two rules changes its own one."""
    found = []
    at = by = 0
    first = None
    while True:
        last, end = rows[at][1], others[by][1]
        is_ending = last is not None and (end is None or last <= end)
        is_other_ending = end is not None and (last is None or end <= last)
        here = last if is_ending else end
        found.append((first, here, rows[at][2], others[by][2]))
        if here is None:
            return found
        at += 1 if is_ending else 0
        by += 1 if is_other_ending else 0
        first = here + 1


def starts_in(first, last, step):
    """The least of neighbouring integers of a stretch, one for each rest by the step, and the end behind them.

    They are the first ones of the stretch, or, if it has none, the last ones.
    """
    if first is None:
        low = 0 if last is None else last - step + 1
        return low, low + step
    return first, first + step if last is None else min(first + step, last + 1)


def are_unlike_at(entry, other, number):
    """Whether two entries tell unlike things at an integer; one that is not for it may tell a fraction there."""
    if entry is None or other is None:
        return entry != other
    return (entry[0] * number + entry[1]) * other[2] != (other[0] * number + other[1]) * entry[2]


def unlike_in(first, last, start, further, entry, other):
    """An integer of a stretch, start or further on, at which two entries tell unlike things; None if there is none.

    By one form each, they tell the same of all that leave the rest of start if they do of both.
    """
    if entry == other:
        return None
    if are_unlike_at(entry, other, start):
        return start
    number = start + further
    if (first is not None and number < first) or (last is not None and number > last):
        return None
    return number if are_unlike_at(entry, other, number) else None


def parted_numbers(stretch, others, is_first):
    """An integer of a stretch, alone in a list, at which other entries tell unlike things; none if there is none.

    The first that is found; or else the outermost one, the least if the stretch has a first integer.
    """
    first, last, entries = stretch
    step = multiple_of([len(entries), len(others)])
    low, high = starts_in(first, last, step)
    further = -step if first is None and last is not None else step
    found = []
    for start in range(low, high):
        entry, other = entries[start % len(entries)], others[start % len(others)]
        number = unlike_in(first, last, start, further, entry, other)
        if number is not None:
            found.append(number)
            if is_first:
                return found
    return [max(found) if further < 0 else min(found)] if found else []


def is_told_by(stretch, entries):
    """Whether other entries tell the same in a stretch."""
    return parted_numbers(stretch, entries, True) == []


def merged_rows(rows):
    """Stretches that tell the same, neighbouring ones made one where the entries of one of them do for both."""
    found = []
    for first, last, entries in rows:
        while found and is_told_by(found[-1], entries):
            first = found.pop()[0]
        if found and is_told_by((first, last, entries), found[-1][2]):
            found[-1] = (found[-1][0], last, found[-1][2])
        else:
            found.append((first, last, entries))
    return found


def drawn_on(rows):
    """Stretches that tell the same, the first one as long as its entries do."""
    first, last, entries = rows[0]
    for at in range(1, len(rows)):
        for number in parted_numbers(rows[at], entries, False):
            return [(first, number - 1, entries), (number,) + rows[at][1:]] + rows[at + 1:]
        last = rows[at][1]
    return [(first, last, entries)]


def turned_rows(rows):
    """The stretches that tell of each integer what these tell of it with its sign turned."""
    found = []
    for first, last, entries in reversed(rows):
        own = [None] * len(entries)
        for rest, entry in enumerate(entries):
            own[-rest % len(own)] = None if entry is None else (-entry[0], entry[1], entry[2])
        found.append((None if last is None else -last, None if first is None else -first, own))
    return found


def tidy_rows(rows):
    """Stretches that tell the same: mostly equal ones for what tells the same everywhere.

    The first one is as long as its entries do, then the last one.
    """
    rows = drawn_on(merged_rows([(first, last, lessened(entries)) for first, last, entries in rows]))
    if len(rows) < 3:
        return rows
    return rows[:1] + turned_rows(drawn_on(turned_rows(rows[1:])))
