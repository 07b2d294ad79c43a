"""The wants of a program, from the last row of each list to the first one, each reckoned once.

What they are is made by a maker: claims, or only the forms that stand in them as point [12] tells them.
"""

from claimduel.finding import pruned
from claimduel.shapes import NO, YES, every_form
from claimduel.spreads import literals_in, put_form, settle, shorter
from claimduel.sums import form_put, form_sum
from claimduel.thinning import DUAL, parts_for, settled_whole, turned
from claimduel.turns import loops_in

# Claims of more literals are not made less, and claims of fewer are not looked at again and again.
MOST_LITERALS = 1000
FEW_LITERALS = 300


def flat_joined(label, claims):
    """The "and" or the "or" of spread claims, spread; equal ones are not looked for."""
    absorbing, idle = (NO, YES) if label == "and" else (YES, NO)
    parts = []
    for claim in claims:
        if claim == absorbing:
            return absorbing
        if claim != idle:
            parts.extend(parts_for(label, claim))
    if len(parts) == 1:
        return parts[0]
    return (label, *parts) if parts else idle


def put_whole(claim, name, form):
    """A spread claim with a form put in for a name."""
    if claim[0] not in DUAL:
        return put_form(claim, name, form)
    parts = []
    for part in claim[1:]:
        parts.append(put_whole(part, name, form))
    return flat_joined(claim[0], parts)


def less(claim):
    """A spread claim that is alike, shorter if it is not too long to be looked at."""
    return claim if len(literals_in(claim)) > MOST_LITERALS else shorter(settle(claim))


def least(claim):
    """As less, for claims that are twice as long as what they were made of: what cannot be so goes, too."""
    claim = less(claim)
    if not FEW_LITERALS < len(literals_in(claim)) <= MOST_LITERALS:
        return claim
    return turned(pruned(turned(pruned(claim, [])), []))


class WantClaims:
    """Makes claims, spread."""

    def of(self, claim):
        return settled_whole(claim)

    def put(self, claim, name, form):
        return less(put_whole(claim, name, form))

    def choose(self, test, one, other):
        """Of a test, what is wanted if it is so, and what if it is not."""
        if one == other:
            return one
        return least(flat_joined("or", [flat_joined("and", [test, one]), flat_joined("and", [turned(test), other])]))

    def both(self, claims):
        return flat_joined("and", claims)

    def implied(self, claims, claim):
        """That the claim is so if the others all are."""
        return less(flat_joined("or", [turned(other) for other in claims] + [claim]))


class WantForms:
    """Makes dicts of the rows of pairs (name, factor) of all forms, that is, of what names stand in them."""

    def of(self, claim):
        return {form[1]: True for form, _ in every_form(claim)}

    def put(self, table, name, form):
        return {form_put((0, pairs), name, form)[1]: True for pairs in table}

    def choose(self, test, one, other):
        return {**test, **one, **other}

    def both(self, tables):
        found = {}
        for table in tables:
            found = {**found, **table}
        return found

    def implied(self, tables, table):
        return self.both(tables + [table])


def want_of(rows, place, end, maker, dues):
    """What is wanted ahead of rows, whose place has their index behind, for what is due at their end.

    What is due behind each loop that stands there, and in no other loop there, is put into the dict dues.
    """
    wanted = end
    for index in reversed(range(len(rows))):
        row, here = rows[index], place + (index,)
        if row[0] == "set":
            wanted = maker.put(wanted, row[1], row[2])
        elif row[0] == "if":
            one = want_of(row[2], here + (0,), wanted, maker, dues)
            other = want_of(row[3], here + (1,), wanted, maker, dues)
            wanted = maker.choose(maker.of(row[1]), one, other)
        else:
            dues[here] = wanted
            wanted = maker.of(row[2])
    return wanted


def wants_of_loop(place, row, maker, dues):
    """The three wants of a loop, behind which is due what the dict dues tells."""
    _, test, keeps, falls, was, rows = row
    kept, held = maker.of(keeps), maker.of(test)
    is_less = maker.of(("below", form_sum(falls, (0, ((was, -1),)))))
    turn = want_of(rows, place + (0,), maker.both([kept, is_less]), maker, dues)
    falling = maker.of(("not", ("below", falls)))
    return [
        (place, "falls", maker.implied([kept, held], falling)),
        (place, "turn", maker.implied([kept, held], maker.put(turn, was, falls))),
        (place, "end", maker.implied([kept, maker.of(("not", test))], dues[place])),
    ]


def all_wants(program, maker):
    """The triples (place, kind, what the maker makes of it) of all wants of a program, in order."""
    dues = {}
    first = maker.implied([maker.of(program.needs)], want_of(program.rows, (), maker.of(program.gives), maker, dues))
    for name in program.names:
        if name not in program.inputs:
            first = maker.put(first, name, (0, ()))
    found = [((), "needs", first)]
    # A loop around another one comes first, and tells what is due behind that one.
    for place, row in loops_in(program.rows, ()):
        found.extend(wants_of_loop(place, row, maker, dues))
    return found
