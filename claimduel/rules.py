"""Rules: for each integer how many, or endlessly many, told by stretches."""

from claimduel.checks import need_name, need_number
from claimduel.claims import need_claim
from claimduel.errors import BadRule, Misfit
from claimduel.papers import fixed
from claimduel.plainly import plain_in
from claimduel.rests import multiple_of
from claimduel.rulings import rows_of_rule
from claimduel.shapes import free_names
from claimduel.stretches import are_stretches, both_rows, first_with, last_with
from claimduel.stretches import lessened, parted_numbers, starts_in, stretch_at, tidy_rows, told_by_entry


class Rule:
    def __init__(self, rows):
        if not are_stretches(rows):
            raise BadRule("rows")
        self.rows = fixed(rows)

    def __eq__(self, other):
        return isinstance(other, Rule) and self.rows == other.rows

    def at(self, number):
        need_number(number, "number")
        entries = stretch_at(self.rows, number)[2]
        return told_by_entry(entries[number % len(entries)], number)


def need_rule(value, part):
    if not isinstance(value, Rule):
        raise BadRule(part)


def rule_for(claim, name, by):
    claim = need_claim(claim, "claim")
    need_name(name, "name")
    need_name(by, "by")
    if by == name:
        raise Misfit("by")
    if any([other not in (name, by) for other in free_names(claim)]):
        raise Misfit("claim")
    return Rule(rows_of_rule(plain_in(claim, True), name, by))


def shared_rows(one, other):
    """Rows (first, last, entries, other entries) of two rules, with as few entries as can be."""
    rows, others = [[(first, last, lessened(entries)) for first, last, entries in rule.rows] for rule in (one, other)]
    return both_rows(rows, others)


def sum_of(entry, other):
    if entry is None or other is None:
        return None
    if entry[2] == other[2]:
        return (entry[0] + other[0], entry[1] + other[1], entry[2])
    return (entry[0] * other[2] + other[0] * entry[2], entry[1] * other[2] + other[1] * entry[2], entry[2] * other[2])


def added(one, other):
    need_rule(one, "one")
    need_rule(other, "other")
    rows = []
    for first, last, entries, others in shared_rows(one, other):
        low, high = starts_in(first, last, multiple_of([len(entries), len(others)]))
        sums = [None] * (high - low)
        for start in range(low, high):
            sums[start % len(sums)] = sum_of(entries[start % len(entries)], others[start % len(others)])
        rows.append((first, last, sums))
    return Rule(tidy_rows(rows))


def most_in(first, last, entries):
    """The greatest number that a stretch tells; None if there is none."""
    found = 0
    for rest, entry in enumerate(entries):
        here = first_with(first, last, rest, len(entries))
        if here is None:
            continue
        if entry is None or (entry[0] > 0 and last is None) or (entry[0] < 0 and first is None):
            return None
        end = last_with(first, last, rest, len(entries))
        found = max(found, told_by_entry(entry, here), told_by_entry(entry, here if end is None else end))
    return found


def most_of(rule):
    need_rule(rule, "rule")
    found = [most_in(*stretch) for stretch in rule.rows]
    return None if None in found else max(found)


def growth_of(rule):
    need_rule(rule, "rule")
    entries = rule.rows[-1][2]
    if None in entries:
        return "endless"
    return "straight" if any([entry[0] > 0 for entry in entries]) else "none"


def last_not_more(entry, other, start, end, step):
    """The last integer from start to end, by steps, at which an entry tells no more than another one.

    The end, None for none, is one of them. None is returned if there is none; "endless" if there is one behind each.
    """
    if entry is None and other is not None:
        return None
    if other is None:
        return "endless" if end is None else end
    # More is told exactly if slope times the integer, and constant, is above 0.
    slope = entry[0] * other[2] - other[0] * entry[2]
    constant = entry[1] * other[2] - other[1] * entry[2]
    if slope > 0:
        bound = -constant // slope if end is None else min(-constant // slope, end)
        return bound - (bound - start) % step if bound >= start else None
    if end is None:
        return "endless" if slope < 0 or constant <= 0 else None
    return end if slope * end + constant <= 0 else None


def last_not_more_in(first, last, entries, others):
    """As last_not_more, for a stretch with a first integer, and all its entries."""
    step = multiple_of([len(entries), len(others)])
    low, high = starts_in(first, last, step)
    found = None
    for start in range(low, high):
        end = None if last is None else last - (last - start) % step
        number = last_not_more(entries[start % len(entries)], others[start % len(others)], start, end, step)
        if number == "endless":
            return number
        if number is not None and (found is None or found < number):
            found = number
    return found


def first_more(one, other):
    need_rule(one, "one")
    need_rule(other, "other")
    for first, last, entries, others in reversed(shared_rows(one, other)):
        if last is not None and last < 0:
            return 0
        first = 0 if first is None else max(first, 0)
        found = last_not_more_in(first, last, entries, others)
        if found is not None:
            return None if found == "endless" else found + 1
    return 0


def parted_at(one, other):
    need_rule(one, "one")
    need_rule(other, "other")
    for first, last, entries, others in shared_rows(one, other):
        for number in parted_numbers((first, last, entries), others, True):
            return number
    return None
