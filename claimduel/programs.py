"""Programs: inputs, what they need, rows, and what they give."""

from claimduel.checks import is_list, is_name
from claimduel.claims import is_plain
from claimduel.errors import BadProgram
from claimduel.forms import is_form
from claimduel.papers import fixed
from claimduel.shapes import free_names

MOST_INPUTS = 6
MOST_ROWS = 40
MOST_LEVELS = 5


def lists_in(row):
    """The lists of rows within a row, in the order of reading."""
    if row[0] == "set":
        return ()
    return row[2:] if row[0] == "if" else row[5:]


def is_top(value):
    """Whether a value is a row if those within it are lists of rows; names are not looked at."""
    if not is_list(value) or len(value) == 0 or not isinstance(value[0], str):
        return False
    label, many = value[0], len(value)
    if label == "set":
        return many == 3 and is_name(value[1]) and is_form(value[2])
    if label == "if":
        return many == 4 and is_plain(value[1]) and is_list(value[2]) and is_list(value[3])
    if label != "while" or many != 6:
        return False
    return is_plain(value[1]) and is_plain(value[2]) and is_form(value[3]) and is_name(value[4]) and is_list(value[5])


def rows_in(value):
    """All rows of a list of rows, those within others too, in the order of reading; None for any other value."""
    if not is_list(value):
        return None
    found, waiting = [], [(row, 1) for row in reversed(value)]
    while waiting:
        row, level = waiting.pop()
        if level > MOST_LEVELS or len(found) == MOST_ROWS or not is_top(row):
            return None
        found.append(row)
        within = [other for rows in lists_in(row) for other in rows]
        waiting.extend([(other, level + 1) for other in reversed(within)])
    return found


def names_in_row(row):
    """The names in the form and the test of a row; those within it are not looked at."""
    if row[0] == "set":
        return [name for name, _ in row[2][1]]
    if row[0] == "if":
        return list(free_names(row[1]))
    return [name for name, _ in row[3][1]] + list(free_names(row[1]))


def names_with(inputs, rows):
    """The names of a program, as a dict of True; None if the was of a loop is not its own."""
    table = {name: True for name in inputs}
    for row in rows:
        if row[0] == "set":
            table[row[1]] = True
    for row in rows:
        if row[0] == "while":
            if row[4] in table:
                return None
            table[row[4]] = True
    # The document has a program that keeps what a name is that no row sets: such a name counts, too.
    for row in rows:
        if row[0] == "while":
            table = {**table, **{name: True for name in free_names(row[2])}}
    return table


def are_inputs(value):
    if not is_list(value) or len(value) > MOST_INPUTS or not all([is_name(name) for name in value]):
        return False
    return len({name: True for name in value}) == len(value)


def need_about(value, names, part):
    """The plain claim with tuples throughout; BadProgram for none, or for one with another free name."""
    if not is_plain(value) or not all([name in names for name in free_names(value)]):
        raise BadProgram(part)
    return fixed(value)


def need_rows(value, inputs):
    """All names of a program with these rows, as a dict of True; BadProgram for rows that are none."""
    rows = rows_in(value)
    names = None if rows is None else names_with(inputs, rows)
    if names is None or not all([name in names for row in rows for name in names_in_row(row)]):
        raise BadProgram("rows")
    return names


class Program:
    def __init__(self, inputs, needs, rows, gives):
        if not are_inputs(inputs):
            raise BadProgram("inputs")
        self.inputs = fixed(inputs)
        self.needs = need_about(needs, self.inputs, "needs")
        names = need_rows(rows, self.inputs)
        self.rows = fixed(rows)
        self.gives = need_about(gives, names, "gives")
        self.names = tuple(sorted(names))

    def __eq__(self, other):
        if not isinstance(other, Program) or self.inputs != other.inputs or self.needs != other.needs:
            return False
        return self.rows == other.rows and self.gives == other.gives


def need_program(value, part):
    if not isinstance(value, Program):
        raise BadProgram(part)
