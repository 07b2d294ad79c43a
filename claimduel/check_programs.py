"""Programs judged: whether all their wants are always so."""

from claimduel.checks import are_integers, setting_of
from claimduel.papers import Denial, Paper
from claimduel.plain import is_right
from claimduel.programs import need_program
from claimduel.settings import right_setting
from claimduel.spreads import settle
from claimduel.thinning import turned
from claimduel.wanting import WantClaims, WantForms, all_wants


class Stands(Paper):
    """All wants of a program are so at each setting."""

    def __init__(self):
        Paper.__init__(self, "stands")


class Breaks(Denial):
    """The want of a program with this place and kind is not so at a setting."""

    def __init__(self, place, kind, setting):
        Denial.__init__(self, "breaks", place, kind, setting)
        self.place, self.kind, self.setting = self.parts


def first_breaking(program):
    """The place, the kind and a setting of the first want that is not always so; None if all are."""
    for place, kind, claim in all_wants(program, WantClaims()):
        names = program.inputs if kind == "needs" else program.names
        setting = right_setting(settle(turned(claim)), names)
        if setting is not None:
            return place, kind, setting
    return None


def judged_program(program):
    need_program(program, "program")
    found = first_breaking(program)
    return Stands() if found is None else Breaks(*found)


def names_of_want(program, place, kind):
    """The names that are free in a want as point [12] tells it; None if there is no such want."""
    for here, other, table in all_wants(program, WantForms()):
        if here == place and other == kind:
            return sorted({name: True for pairs in table for name, _ in pairs})
    return None


def is_breaking(program, place, kind, setting):
    """Whether any values are those of a right Breaks."""
    pairs = setting_of(setting)
    if pairs is None or not are_integers(place) or not isinstance(kind, str):
        return False
    table = dict(pairs)
    names = names_of_want(program, place, kind)
    if names is None or not all([name in table for name in names]):
        return False
    for here, other, claim in all_wants(program, WantClaims()):
        if here == place and other == kind:
            return not is_right(claim, table)
    return False


def shows_program(program, value):
    need_program(program, "program")
    if isinstance(value, Stands):
        return first_breaking(program) is None
    return isinstance(value, Breaks) and is_breaking(program, value.place, value.kind, value.setting)
