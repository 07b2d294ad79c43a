"""What is known of sums of names: bounds, holes and rests.

A *core* is the row of pairs of a form, without its constant. Of one core, the first factor
of which is above 0, comparisons tell between what it is, and what it is not: its line.
"""

from math import gcd

from claimduel.rests import rest_of_both

NO_LINE = (None, None)
# Rests are told as one up to here: numbers shall not grow beyond what a text can have.
MOST_M = 10 ** 60 - 1
# How many rests of one core that are too great to be told as one are looked at.
MOST_APART = 8


def core_of(form):
    """The core of a comparison, turned so that its first factor is above 0."""
    pairs = form[1]
    if pairs[0][1] > 0:
        return pairs
    return tuple([(name, -factor) for name, factor in pairs])


def bounds_of(comparison):
    """The least and the greatest number that a comparison lets its core be; None for no bound."""
    constant, pairs = comparison[1]
    if comparison[0] == "zero":
        return (-constant, -constant)
    if pairs[0][1] > 0:
        return (None, -constant - 1)
    return (constant + 1, None)


def greater_of(one, other):
    """The greater of two least numbers, None being none."""
    if one is None or other is None:
        return other if one is None else one
    return max(one, other)


def lesser_of(one, other):
    """The lesser of two greatest numbers, None being none."""
    if one is None or other is None:
        return other if one is None else one
    return min(one, other)


def twin_gaps(gaps):
    return {m: dict(gaps[m]) for m in gaps}


class Facts:
    """Literals that can be so together, as far as these facts can tell."""

    def __init__(self):
        # core: (least, greatest)
        self.lines = {}
        # core: {a number that it is not: True}
        self.holes = {}
        # core: pairs (rest, m), all of which it leaves
        self.rests = {}
        # core: {m: {a rest that it does not leave: True}}
        self.gaps = {}

    def twin(self):
        other = Facts()
        other.lines = {core: self.lines[core] for core in self.lines}
        other.holes = {core: dict(self.holes[core]) for core in self.holes}
        other.rests = {core: list(self.rests[core]) for core in self.rests}
        other.gaps = {core: twin_gaps(self.gaps[core]) for core in self.gaps}
        return other

    def tell(self, literal):
        """True if the literal is so wherever these are, False if nowhere, None otherwise."""
        label = literal[0]
        if label in ("yes", "no"):
            return label == "yes"
        if label == "not":
            told = self.tell(literal[1])
            return None if told is None else not told
        if label == "rests":
            return self.tell_rest(literal[2][1], -literal[2][0] % literal[1], literal[1])
        return self.tell_line(core_of(literal[1]), bounds_of(literal))

    def tell_line(self, core, wanted):
        least, greatest = self.lines.get(core, NO_LINE)
        low, high = greater_of(least, wanted[0]), lesser_of(greatest, wanted[1])
        if low == least and high == greatest:
            return True
        if low is not None and high is not None and low > high:
            return False
        if low is not None and low == high and low in self.holes.get(core, {}):
            return False
        return None

    def tell_rest(self, core, rest, m):
        least, greatest = self.lines.get(core, NO_LINE)
        if least is not None and least == greatest:
            return (least - rest) % m == 0
        for left, by in self.rests.get(core, [])[:MOST_APART]:
            if (left - rest) % gcd(by, m) != 0:
                return False
            if by % m == 0:
                return True
        gaps = self.gaps.get(core, {})
        for less in gaps:
            if m % less == 0 and rest % less in gaps[less]:
                return False
        return None

    def note(self, literal):
        """Adds a literal, neither yes nor no, of which these facts cannot tell."""
        label = literal[0]
        if label == "rests":
            self.note_rest(literal[2][1], (-literal[2][0] % literal[1], literal[1]))
        elif label != "not":
            self.note_line(core_of(literal[1]), bounds_of(literal))
        elif literal[1][0] == "zero":
            self.note_hole(core_of(literal[1][1]), bounds_of(literal[1])[0])
        else:
            m, form = literal[1][1], literal[1][2]
            self.note_gap(form[1], -form[0] % m, m)

    def note_line(self, core, bounds):
        least, greatest = self.lines.get(core, NO_LINE)
        least, greatest = greater_of(least, bounds[0]), lesser_of(greatest, bounds[1])
        holes = self.holes.get(core, {})
        # An end that is a hole is no end; each step takes a hole away.
        while least is not None and least in holes:
            del holes[least]
            least += 1
        while greatest is not None and greatest in holes:
            del holes[greatest]
            greatest -= 1
        self.lines[core] = (least, greatest)

    def note_hole(self, core, number):
        holes = self.holes.setdefault(core, {})
        holes[number] = True
        # The number may be an end of the line.
        self.note_line(core, NO_LINE)

    def note_gap(self, core, rest, m):
        gaps = self.gaps.setdefault(core, {})
        rests = gaps.setdefault(m, {})
        rests[rest] = True

    def note_rest(self, core, pair):
        pairs = self.rests.setdefault(core, [])
        looked_at = pairs[:MOST_APART]
        for at, other in enumerate(looked_at):
            found = rest_of_both(other, pair)
            if found is not None and found[1] <= MOST_M:
                pairs[at] = found
                return
        pairs.append(pair)

    def literals(self):
        """Literals that say together what these say."""
        told = []
        for core in self.lines:
            told.extend(self.line_literals(core))
        for core in self.rests:
            told.extend([("rests", m, (-rest % m, core)) for rest, m in self.rests[core]])
        for core in self.gaps:
            told.extend(self.gap_literals(core))
        return told

    def line_literals(self, core):
        least, greatest = self.lines[core]
        if least is not None and least == greatest:
            return [("zero", (-least, core))]
        told = []
        if least is not None:
            told.append(("below", (least - 1, tuple([(name, -factor) for name, factor in core]))))
        if greatest is not None:
            told.append(("below", (-greatest - 1, core)))
        for hole in self.holes.get(core, {}):
            if (least is None or least < hole) and (greatest is None or hole < greatest):
                told.append(("not", ("zero", (-hole, core))))
        return told

    def gap_literals(self, core):
        told = []
        pairs = self.rests.get(core, [])[:MOST_APART]
        gaps = self.gaps[core]
        for m in gaps:
            for rest in gaps[m]:
                if all([(left - rest) % gcd(by, m) == 0 for left, by in pairs]):
                    told.append(("not", ("rests", m, (-rest % m, core))))
        return told
