"""What is wanted of a program, so that it does what it promises."""

from claimduel.programs import need_program
from claimduel.spreads import told_shortly
from claimduel.wanting import WantClaims, all_wants


def wants_of(program):
    need_program(program, "program")
    return tuple([(place, kind, told_shortly(claim)) for place, kind, claim in all_wants(program, WantClaims())])
