"""Runs of programs, and trials of what their wants speak of."""

from claimduel.checks import are_integers, need_number, need_setting, need_told
from claimduel.errors import BadNumber, Misfit
from claimduel.papers import Paper
from claimduel.plain import is_right
from claimduel.programs import need_program
from claimduel.sums import worth_by
from claimduel.turns import is_want, rows_at

MOST_FUEL = 100000


class Run(Paper):
    """How a run ended, the numbers of all names then, and how much fuel was spent."""

    def __init__(self, outcome, names, spent):
        Paper.__init__(self, "run", outcome, names, spent)
        self.outcome, self.names, self.spent = self.parts


class Runner:
    """Does rows as long as there is fuel."""

    def __init__(self, table, fuel):
        self.table = table
        self.fuel = fuel
        self.spent = 0

    def spend(self):
        """Whether there was fuel to be spent."""
        if self.spent == self.fuel:
            return False
        self.spent += 1
        return True

    def do_rows(self, rows):
        """Does rows; False if no fuel is left for one of them."""
        for row in rows:
            if not self.do_row(row):
                return False
        return True

    def do_row(self, row):
        if row[0] == "while":
            return self.do_loop(row)
        if not self.spend():
            return False
        if row[0] == "set":
            self.table[row[1]] = worth_by(row[2], self.table)
            return True
        return self.do_rows(row[2] if is_right(row[1], self.table) else row[3])

    def do_loop(self, row):
        _, test, _, falls, was, rows = row
        while self.spend():
            if not is_right(test, self.table):
                return True
            self.table[was] = worth_by(falls, self.table)
            if not self.do_rows(rows):
                return False
        return False


def names_told(table, names):
    """The setting of these names."""
    return tuple([(name, table[name]) for name in names])


def starting(program, table):
    """All names of a program as a run begins, the inputs by a dict."""
    return {name: table[name] if name in program.inputs else 0 for name in program.names}


def run(program, inputs, fuel):
    need_program(program, "program")
    if not are_integers(inputs) or len(inputs) != len(program.inputs):
        raise BadNumber("inputs")
    need_number(fuel, "fuel", 0, MOST_FUEL)
    runner = Runner(starting(program, dict(zip(program.inputs, inputs))), fuel)
    outcome = "done" if runner.do_rows(program.rows) else "short"
    return Run(outcome, names_told(runner.table, program.names), runner.spent)


def do_from(rows, place, start, table):
    """Does the rows from start on of a list, whose rows have this place with their index; the place of the first loop.

    None if no loop comes.
    """
    for index in range(start, len(rows)):
        row, here = rows[index], place + (index,)
        if row[0] == "while":
            return here
        if row[0] == "set":
            table[row[1]] = worth_by(row[2], table)
            continue
        side = 0 if is_right(row[1], table) else 1
        stop = do_from(row[2 + side], here + (side,), 0, table)
        if stop is not None:
            return stop
    return None


def do_behind(program, place, table):
    """Does what follows the row at a place; where it stops."""
    while True:
        stop = do_from(rows_at(program, place[:-1]), place[:-1], place[-1] + 1, table)
        if stop is not None or len(place) == 1:
            return stop
        place = place[:-2]
        if rows_at(program, place[:-1])[place[-1]][0] == "while":
            return place


def do_want(program, place, kind, table):
    """Does what a want speaks of; where it stops."""
    if kind == "falls":
        return place
    if kind == "needs":
        return do_from(program.rows, (), 0, table)
    if kind == "end":
        return do_behind(program, place, table)
    _, _, _, falls, was, rows = rows_at(program, place[:-1])[place[-1]]
    table[was] = worth_by(falls, table)
    stop = do_from(rows, place + (0,), 0, table)
    return place if stop is None else stop


def trial(program, place, kind, setting):
    need_program(program, "program")
    table = need_setting(setting, "setting")
    if not is_want(program, place, kind):
        raise Misfit("want")
    place = tuple(place)
    if kind == "needs":
        need_told(program.inputs, table)
        table = starting(program, table)
    need_told(program.names, table)
    stop = do_want(program, place, kind, table)
    return stop, names_told(table, program.names)
