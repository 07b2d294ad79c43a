"""The rows of a program by their places, and which wants it has."""

from claimduel.checks import are_integers

LOOP_KINDS = ("falls", "turn", "end")


def rows_at(program, place):
    """The list of rows whose rows have this place with their index behind."""
    rows = program.rows
    for at in range(0, len(place), 2):
        row, side = rows[place[at]], place[at + 1]
        rows = row[2 + side] if row[0] == "if" else row[5]
    return rows


def loops_in(rows, place):
    """The pairs (place, row) of all loops in a list of rows, in the order of reading."""
    found = []
    for index, row in enumerate(rows):
        here = place + (index,)
        if row[0] == "while":
            found.append((here, row))
            found.extend(loops_in(row[5], here + (0,)))
        elif row[0] == "if":
            found.extend(loops_in(row[2], here + (0,)))
            found.extend(loops_in(row[3], here + (1,)))
    return found


def kinds_of_wants(program):
    """The pairs (place, kind) of all wants of a program, in order."""
    found = [((), "needs")]
    for place, _ in loops_in(program.rows, ()):
        found.extend([(place, kind) for kind in LOOP_KINDS])
    return found


def is_want(program, place, kind):
    """Whether any values are the place and the kind of a want of a program."""
    if not are_integers(place) or not isinstance(kind, str):
        return False
    return (tuple(place), kind) in kinds_of_wants(program)
