"""Programs for the tests: some by hand, others at random; and own reckoning of runs, trials and wants."""

from claimduel.errors import BadProgram
from claimduel.programs import Program
from reckoning import plain_so, worth_at
from support import below, random_tree, rests, zero

YES = ("yes",)


def form(constant, **factors):
    return (constant, tuple(sorted(factors.items())))


def not_below(constant, **factors):
    return ("not", below(constant, **factors))


# Thirds: 3 is taken away from a as often as it can be.
LEFT = not_below(-3, r=1)
KEPT = ("and", zero(0, a=1, q=-3, r=-1), not_below(0, r=1))
TURN = (("set", "r", form(-3, r=1)), ("set", "q", form(1, q=1)))
THIRDS = Program(["a"], not_below(0, a=1), [("set", "r", form(0, a=1)), ("while", LEFT, KEPT, form(0, r=1), "w", TURN)],
                 ("and", KEPT, below(-3, r=1)))
# Counts i from 0 to n; s gets 2 each time.
COUNT = Program(["n"], not_below(0, n=1), [("while", below(0, i=1, n=-1),
                                            ("and", zero(0, s=1, i=-2), not_below(0, n=1, i=-1)),
                                            form(0, n=1, i=-1), "w",
                                            [("set", "i", form(1, i=1)), ("set", "s", form(2, s=1))])],
                zero(0, s=1, n=-2))
# The greater one of two.
GREATER = Program(["a", "b"], YES, [("if", below(0, a=1, b=-1), [("set", "m", form(0, b=1))],
                                     [("set", "m", form(0, a=1))])],
                  ("and", not_below(0, m=1, a=-1), not_below(0, m=1, b=-1),
                   ("or", zero(0, m=1, a=-1), zero(0, m=1, b=-1))))
# A loop in a loop: j goes from 0 to 2 for each i.
NESTED = Program(["n"], not_below(0, n=1), [
    ("while", below(0, i=1, n=-1), not_below(0, n=1, i=-1), form(0, n=1, i=-1), "w", [
        ("set", "j", form(0)),
        ("while", below(-2, j=1), ("and", below(0, i=1, n=-1), zero(0, n=1, i=-1, w=-1), not_below(2, j=-1)),
         form(2, j=-1), "v",
         [("set", "j", form(1, j=1))]),
        ("set", "i", form(1, i=1))])], zero(0, i=1, n=-1))
# Never ends: what it tells to fall does not.
ENDLESS = Program([], YES, [("while", YES, YES, form(0, x=1), "w", [("set", "x", form(1, x=1))])], ("no",))
RIGHT = (THIRDS, COUNT, GREATER, NESTED)


def loop_of(program):
    """The index of the first loop among the rows of a program, and this loop."""
    return next((at, row) for at, row in enumerate(program.rows) if row[0] == "while")


def with_loop(program, **changes):
    """The program with its first loop changed."""
    at, row = loop_of(program)
    parts = dict(zip(("test", "keeps", "falls", "was", "rows"), row[1:]))
    parts.update(changes)
    rows = list(program.rows)
    rows[at] = ("while", *parts.values())
    return Program(program.inputs, program.needs, rows, program.gives)


def random_atom(luck, names):
    kind = luck.choice(("below", "below", "zero", "rests"))
    pairs = random_pairs(luck, names, 1)
    constant = luck.choice((luck.randint(-5, 5), luck.randint(-5, 5), luck.randint(-10 ** 31, 10 ** 31)))
    atom = ("rests", luck.choice((2, 3, 4)), (constant, pairs)) if kind == "rests" else (kind, (constant, pairs))
    return ("not", atom) if luck.random() < 0.4 else atom


def random_pairs(luck, names, least):
    chosen = sorted(luck.sample(list(names), luck.randint(least, min(3, len(names)))))
    great = luck.choice([*chosen, None])
    return tuple((name, luck.choice((2, -2, 3, -3)) if name == great else luck.choice((1, -1))) for name in chosen)


def random_kept(luck, names, most):
    atoms = [random_atom(luck, names) for _ in range(luck.randint(1, most))]
    return random_tree(luck, atoms) if len(atoms) == 1 or luck.random() < 0.4 else ("and", *atoms)


def random_rows(luck, plain, was, left, level=1, loops=0):
    """Rows over the plain names; the was of each loop is taken from a list, left holds how many rows may come."""
    rows = []
    for _ in range(luck.randint(0 if level > 1 else 1, 4)):
        if left[0] == 0:
            break
        left[0] -= 1
        chance = luck.random()
        if chance < 0.3 and level < 3 and loops < 2:
            sides = [random_rows(luck, plain, was, left, level + 1, loops) for _ in range(2)]
            rows.append(("if", random_kept(luck, plain, 2), *sides))
        elif chance < 0.6 and level < 3 and was:
            name = was.pop()
            inner = random_rows(luck, plain, was, left, level + 1, loops + 1)
            rows.append(("while", random_kept(luck, plain, 2), random_kept(luck, [*plain, name], 5),
                         (luck.randint(-4, 4), random_pairs(luck, [*plain, name], 0)), name, inner))
        else:
            rows.append(("set", luck.choice(plain), (luck.randint(-4, 4), random_pairs(luck, plain, 0))))
    return rows


def random_program(luck):
    """A small program with up to two loops and three inputs."""
    while True:
        was = ["w", "v"][:luck.randint(0, 2)]
        plain = ["a", "b", "c", "d"][:4 - len(was)]
        inputs = luck.sample(plain, luck.randint(0, min(3, len(plain))))
        rows = random_rows(luck, plain, list(was), [12])
        needs = random_kept(luck, inputs, 3) if inputs else YES
        try:
            return Program(inputs, needs, rows, random_kept(luck, plain, 4))
        except BadProgram:
            # Some name stands there that is not set.
            continue


def put(claim, name, other):
    """A plain claim with a form put in for a name."""
    if claim[0] in ("yes", "no"):
        return claim
    if claim[0] in ("not", "and", "or"):
        return (claim[0], *(put(part, name, other) for part in claim[1:]))
    constant, factors = claim[-1][0], dict(claim[-1][1])
    factor = factors.pop(name, 0)
    for more, by in other[1]:
        factors[more] = factors.get(more, 0) + factor * by
    pairs = tuple(sorted((more, by) for more, by in factors.items() if by != 0))
    return (*claim[:-1], (constant + factor * other[0], pairs))


def want(rows, claim):
    """The want of rows ahead of a claim, as point [12] tells it."""
    if not rows:
        return claim
    row, behind = rows[0], want(rows[1:], claim)
    if row[0] == "set":
        return put(behind, row[1], row[2])
    if row[0] == "if":
        return ("or", ("and", row[1], want(row[2], behind)), ("and", ("not", row[1]), want(row[3], behind)))
    return row[2]


def loops_with_dues(rows, place, end):
    """Triples (place, loop, what is due behind it), in reading order."""
    found = []
    for at, row in enumerate(rows):
        here, due = place + (at,), want(rows[at + 1:], end)
        if row[0] == "if":
            found += loops_with_dues(row[2], here + (0,), due) + loops_with_dues(row[3], here + (1,), due)
        elif row[0] == "while":
            found.append((here, row, due))
            found += loops_with_dues(row[5], here + (0,), loop_end(row))
    return found


def loop_end(row):
    """What is due at the end of the rows of a loop: keeps, and falls is below was."""
    constant, factors = row[3][0], dict(row[3][1])
    factors[row[4]] = factors.get(row[4], 0) - 1
    return ("and", row[2], ("below", (constant, tuple(sorted((name, by) for name, by in factors.items() if by != 0)))))


def so(parts, claim):
    """"a, so b"."""
    return ("or", *(("not", part) for part in parts), claim)


def wants_as_told(program):
    first = so([program.needs], want(program.rows, program.gives))
    for name in program.names:
        if name not in program.inputs:
            first = put(first, name, (0, ()))
    found = [((), "needs", first)]
    for place, row, due in loops_with_dues(program.rows, (), program.gives):
        _, test, keeps, falls, was, rows = row
        found.append((place, "falls", so([keeps, test], ("not", ("below", falls)))))
        found.append((place, "turn", so([keeps, test], want((("set", was, falls), *rows), loop_end(row)))))
        found.append((place, "end", so([keeps, ("not", test)], due)))
    return found


class OutOfFuel(Exception):
    pass


class Machine:
    """Runs programs, as point [12] tells it."""

    def __init__(self, program, numbers, fuel):
        self.names = {name: 0 for name in program.names}
        self.names.update(zip(program.inputs, numbers))
        self.fuel, self.left = fuel, fuel
        try:
            self.do(program.rows)
            self.outcome = "done"
        except OutOfFuel:
            self.outcome = "short"

    def burn(self):
        if self.left == 0:
            raise OutOfFuel()
        self.left -= 1

    def do(self, rows):
        for row in rows:
            self.burn()
            if row[0] == "set":
                self.names[row[1]] = worth_at(row[2], self.names)
            elif row[0] == "if":
                self.do(row[2] if plain_so(row[1], self.names) else row[3])
            else:
                while plain_so(row[1], self.names):
                    self.names[row[4]] = worth_at(row[3], self.names)
                    self.do(row[5])
                    self.burn()

    def told(self):
        return (self.outcome, tuple(sorted(self.names.items())), self.fuel - self.left)


class Stop(Exception):
    pass


def go(rows, place, start, names):
    """Does rows up to the first loop that comes, at which it raises Stop(place)."""
    for at in range(start, len(rows)):
        row = rows[at]
        if row[0] == "while":
            raise Stop(place + (at,))
        if row[0] == "set":
            names[row[1]] = worth_at(row[2], names)
        else:
            side = 0 if plain_so(row[1], names) else 1
            go(row[2 + side], place + (at, side), 0, names)


def list_at(program, place):
    rows = program.rows
    for at in range(0, len(place), 2):
        row = rows[place[at]]
        rows = row[2 + place[at + 1]] if row[0] == "if" else row[5]
    return rows


def trial_by_hand(program, place, kind, setting):
    """Where a trial stops, and the names there."""
    names = {name: setting[name] if kind != "needs" or name in program.inputs else 0 for name in program.names}

    def done():
        if kind == "falls":
            raise Stop(place)
        if kind == "needs":
            go(program.rows, (), 0, names)
            raise Stop(None)
        if kind == "turn":
            row = list_at(program, place[:-1])[place[-1]]
            names[row[4]] = worth_at(row[3], names)
            go(row[5], place + (0,), 0, names)
            raise Stop(place)
        here = place
        while True:
            go(list_at(program, here[:-1]), here[:-1], here[-1] + 1, names)
            if len(here) == 1:
                raise Stop(None)
            here = here[:-2]
            if list_at(program, here[:-1])[here[-1]][0] == "while":
                raise Stop(here)

    try:
        done()
    except Stop as stop:
        return stop.args[0], tuple(sorted(names.items()))


def comes_out_well(program, place, kind, setting):
    """Whether a want is so, by what its trial comes to."""
    names = {name: setting[name] if kind != "needs" or name in program.inputs else 0 for name in program.names}
    if kind == "needs":
        given = [program.needs]
    else:
        _, test, keeps, falls, _, _ = list_at(program, place[:-1])[place[-1]]
        given = [keeps, ("not", test) if kind == "end" else test]
    if not all(plain_so(part, names) for part in given):
        return True
    if kind == "falls":
        return worth_at(falls, names) >= 0
    stop, pairs = trial_by_hand(program, place, kind, setting)
    names = dict(pairs)
    if stop is None:
        return plain_so(program.gives, names)
    row = list_at(program, stop[:-1])[stop[-1]]
    # The rows of a loop around, or of the loop itself, came to their end.
    if kind in ("turn", "end") and place[:len(stop)] == stop:
        return plain_so(loop_end(row), names)
    return plain_so(row[2], names)
