"""Duels over claims, played move by move."""

from claimduel.checks import is_integer, is_list, is_within, need_setting, need_told
from claimduel.claims import need_claim
from claimduel.errors import BadDuel, BadMove, Misfit, Over
from claimduel.layouts import Layout
from claimduel.papers import fixed
from claimduel.plain import is_right
from claimduel.plainly import form_by
from claimduel.shapes import free_names

KINDS = {"part": "part", "name": "name", "lay": "lay", "doubt": "doubt", "take": "doubt"}
# What comes for the label of a claim that is left; all others are the end.
COMING = {"and": "part", "or": "part", "all": "name", "some": "name", "endless": "name", "count": "lay"}


def is_move(value):
    if not is_list(value) or len(value) == 0 or not isinstance(value[0], str):
        return False
    label, many = value[0], len(value)
    if label == "part":
        return many == 2 and is_within(value[1], 0, None)
    if label == "name":
        return many == 2 and is_integer(value[1])
    if label == "lay":
        return many == 2 and is_list(value[1]) and all([isinstance(one, Layout) for one in value[1]])
    if label == "doubt":
        return many == 3 and is_within(value[1], 0, None) and is_integer(value[2])
    return label == "take" and many == 1


def need_move(value, part):
    if not is_move(value):
        raise BadMove(part)
    return fixed(value)


def is_kept_by(claim, table, layouts):
    """Whether the keeper of a count comparison has won if the doubter takes these layouts."""
    _, kind, form, rows = claim
    worth = form_by(form, table)[0]
    worth += sum([row[0] * layout.many() for row, layout in zip(rows, layouts)])
    return worth < 0 if kind == "below" else worth == 0


class Duel:
    def __init__(self, claim, setting):
        claim = need_claim(claim, "claim")
        table = need_setting(setting, "setting")
        need_told(free_names(claim), table)
        self.moves = ()
        # All numbers that were told, by their names: of each name the last one.
        self.known = table
        self.keeper = 0
        self.place = ()
        self.arrive(claim)

    def arrive(self, claim):
        """Leaves a claim, and sets what comes."""
        while claim[0] == "not":
            claim = claim[1]
            self.keeper = 1 - self.keeper
            self.place = self.place + (0,)
        self.claim = claim
        self.setting = tuple([(name, self.known[name]) for name in free_names(claim)])
        self.bound = None
        self.laid = None
        self.winner = None
        self.kind = COMING.get(claim[0], "over")
        if self.kind == "over":
            self.finish(is_right(claim, self.known))
        elif claim[0] in ("and", "all", "endless"):
            self.turn = 1 - self.keeper
        else:
            self.turn = self.keeper

    def finish(self, is_kept):
        """Ends the duel: the keeper has won if it is kept."""
        self.kind = "over"
        self.turn = None
        self.bound = None
        self.laid = None
        self.winner = self.keeper if is_kept else 1 - self.keeper

    def enter(self, index, claim):
        """Goes into the part with this index."""
        self.place = self.place + (index,)
        self.arrive(claim)

    def move(self, move):
        move = need_move(move, "move")
        if self.kind == "over":
            raise Over()
        if KINDS[move[0]] != self.kind:
            raise Misfit("kind")
        if move[0] == "part":
            self.move_part(move[1])
        elif move[0] == "name":
            self.move_name(move[1])
        elif move[0] == "lay":
            self.move_lay(move[1])
        elif move[0] == "doubt":
            self.move_doubt(move[1], move[2])
        else:
            self.move_take()
        self.moves = self.moves + (move,)

    def move_part(self, index):
        if index >= len(self.claim) - 1:
            raise Misfit("index")
        self.enter(index, self.claim[index + 1])

    def move_name(self, number):
        if self.claim[0] == "endless" and self.bound is None:
            self.bound = number
            self.turn = self.keeper
        elif self.bound is not None and abs(number) < abs(self.bound):
            self.finish(False)
        else:
            self.keep(self.claim[1], number)
            self.enter(0, self.claim[2])

    def keep(self, name, number):
        """Keeps a number for a name; what a twin keeps is not changed."""
        self.known = {**self.known, name: number}

    def move_lay(self, layouts):
        if len(layouts) != len(self.claim[3]) or any([one.many() is None for one in layouts]):
            raise Misfit("layouts")
        self.laid = layouts
        self.kind = "doubt"
        self.turn = 1 - self.keeper

    def move_doubt(self, index, number):
        if index >= len(self.laid):
            raise Misfit("index")
        _, name, claim = self.claim[3][index]
        if not self.laid[index].has(number):
            # The not that is put ahead counts for no place.
            self.keeper = 1 - self.keeper
        self.keep(name, number)
        self.enter(index, claim)

    def move_take(self):
        self.finish(is_kept_by(self.claim, self.known, self.laid))

    def twin(self):
        other = Duel(self.claim, self.known)
        other.claim, other.setting, other.known = self.claim, self.setting, self.known
        other.keeper, other.place, other.bound, other.laid = self.keeper, self.place, self.bound, self.laid
        other.kind, other.turn, other.winner, other.moves = self.kind, self.turn, self.winner, self.moves
        return other


def need_duel(value, part):
    if not isinstance(value, Duel):
        raise BadDuel(part)
