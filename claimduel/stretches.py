"""Stretches of rules: (first, last, entries), None for an end that is not there.

The entry for an integer n is that whose index is the rest of n by how many entries there are: None
for endlessly many, or (slope, constant, d) for (slope n + constant) / d.
"""

from claimduel.checks import is_integer, is_list
from claimduel.rests import common_of, multiple_of
from claimduel.spanclaims import divisors_of


def is_entry(value):
    if value is None:
        return True
    if not is_list(value) or len(value) != 3 or not all([is_integer(number) for number in value]):
        return False
    return value[2] >= 1


def is_stretch(value):
    if not is_list(value) or len(value) != 3 or not is_list(value[2]) or len(value[2]) == 0:
        return False
    first, last, entries = value
    if not all([end is None or is_integer(end) for end in (first, last)]):
        return False
    if first is not None and last is not None and first > last:
        return False
    return all([is_entry(entry) for entry in entries])


def first_with(first, last, rest, m):
    """The first integer of a stretch with the rest by m, or the last one if it has no first one; None for none."""
    if first is not None:
        found = first + (rest - first) % m
        return found if last is None or found <= last else None
    return rest if last is None else last - (last - rest) % m


def last_with(first, last, rest, m):
    """The last integer of a stretch that leaves the rest by m, if the stretch has an end and such an integer."""
    if last is None:
        return None
    found = last - (last - rest) % m
    return found if first is None or found >= first else None


def told_by_entry(entry, number):
    if entry is None:
        return None
    slope, constant, d = entry
    return (slope * number + constant) // d


def is_entry_right(stretch, rest):
    """Whether an entry tells an integer from 0 on at each integer for which it stands."""
    first, last, entries = stretch
    entry, many = entries[rest], len(entries)
    here = first_with(first, last, rest, many)
    if entry is None or here is None:
        return True
    slope, constant, d = entry
    if (slope * here + constant) % d != 0 or slope * here + constant < 0:
        return False
    end = last_with(first, last, rest, many)
    if here == end and first is not None:
        return True
    # More than one integer has this entry.
    if slope * many % d != 0:
        return False
    if (first is None and slope > 0) or (last is None and slope < 0):
        return False
    return end is None or slope * end + constant >= 0


def are_stretches(value):
    """Whether any value is a list of stretches that tell a rule."""
    if not is_list(value) or len(value) == 0 or not all([is_stretch(stretch) for stretch in value]):
        return False
    if value[0][0] is not None or value[-1][1] is not None:
        return False
    for one, other in zip(value, value[1:]):
        if one[1] is None or other[0] is None or other[0] != one[1] + 1:
            return False
    for stretch in value:
        if not all([is_entry_right(stretch, rest) for rest in range(len(stretch[2]))]):
            return False
    return True


def entry_by(slope, constant, d):
    """The entry (slope, constant, d), with the least d that does it."""
    common = common_of([slope, constant, d])
    return (slope // common, constant // common, d // common)


def stretch_at(rows, number):
    """The stretch of a rule in which a number is."""
    low, high = 0, len(rows) - 1
    while low < high:
        middle = (low + high) // 2
        if number <= rows[middle][1]:
            high = middle
        else:
            low = middle + 1
    return rows[low]


def lessened(entries):
    """Entries that tell the same, as short as can be, and as few."""
    short = [None if entry is None else entry_by(*entry) for entry in entries]
    for many in divisors_of(len(short)):
        if short[many:] == short[:len(short) - many]:
            return short[:many]
    return short


def both_rows(rows, others):
    """The stretches (first, last, entries, other entries) in which neither of two rules changes its own one."""
    found = []
    at = by = 0
    first = None
    while True:
        last, end = rows[at][1], others[by][1]
        is_ending = last is not None and (end is None or last <= end)
        is_other_ending = end is not None and (last is None or end <= last)
        here = last if is_ending else end
        found.append((first, here, rows[at][2], others[by][2]))
        if here is None:
            return found
        at += 1 if is_ending else 0
        by += 1 if is_other_ending else 0
        first = here + 1


def starts_in(first, last, step):
    """The least of neighbouring integers of a stretch, one for each rest by the step, and the end behind them.

    They are the first ones of the stretch, or, if it has none, the last ones.
    """
    if first is None:
        low = 0 if last is None else last - step + 1
        return low, low + step
    return first, first + step if last is None else min(first + step, last + 1)


def parted_in(first, last, entries, others):
    """An integer of a stretch at which its entries and other ones tell unlike things; None if there is none."""
    step = multiple_of([len(entries), len(others)])
    low, high = starts_in(first, last, step)
    # By one form each, they tell the same of all that leave a rest if they do of two of these.
    further = -step if first is None and last is not None else step
    for start in range(low, high):
        entry, other = entries[start % len(entries)], others[start % len(others)]
        if entry == other:
            continue
        if told_by_entry(entry, start) != told_by_entry(other, start):
            return start
        is_alone = first is not None and last is not None and start + step > last
        if not is_alone and told_by_entry(entry, start + further) != told_by_entry(other, start + further):
            return start + further
    return None


def is_told_by(stretch, entries):
    """Whether other entries tell the same in a stretch."""
    first, last, own = stretch
    return parted_in(first, last, own, entries) is None


def merged_rows(rows):
    """Stretches that tell the same, neighbouring ones made one where the entries of one of them do for both."""
    found = []
    for first, last, entries in rows:
        while found and is_told_by(found[-1], entries):
            first = found.pop()[0]
        if found and is_told_by((first, last, entries), found[-1][2]):
            found[-1] = (found[-1][0], last, found[-1][2])
        else:
            found.append((first, last, entries))
    return found
