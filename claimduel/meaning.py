"""What claims of all kinds mean: plain claims that are alike, and whether they are so at a setting."""

from claimduel.checks import need_setting, need_told
from claimduel.claims import need_claim
from claimduel.plainly import is_so_by, plain_in
from claimduel.shapes import free_names
from claimduel.spreads import told_shortly


def plain_of(claim):
    return told_shortly(plain_in(need_claim(claim, "claim"), True))


def is_so(claim, setting):
    claim = need_claim(claim, "claim")
    table = need_setting(setting, "setting")
    need_told(free_names(claim), table)
    return is_so_by(claim, table)
