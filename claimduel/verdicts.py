"""Verdicts on claims: whether they are always so, follow from one another, are alike."""

from claimduel.claims import need_claim
from claimduel.papers import Denial, Paper
from claimduel.plainly import plain_in
from claimduel.settings import right_setting
from claimduel.shapes import free_names
from claimduel.spreads import joint, settle


class Always(Paper):
    """A claim is so at each setting."""

    def __init__(self):
        Paper.__init__(self, "always")


class Sometimes(Paper):
    """A claim is so at the setting yes, and not at the setting no."""

    def __init__(self, yes, no):
        Paper.__init__(self, "sometimes", yes, no)
        self.yes, self.no = self.parts


class Never(Denial):
    """A claim is so at no setting."""

    def __init__(self):
        Denial.__init__(self, "never")


class Follows(Paper):
    """A claim is so wherever another one is."""

    def __init__(self):
        Paper.__init__(self, "follows")


class Unless(Denial):
    """A claim is not so at a setting at which another one is."""

    def __init__(self, setting):
        Denial.__init__(self, "unless", setting)
        self.setting = self.parts[0]


class Alike(Paper):
    """Two claims are so at the same settings."""

    def __init__(self):
        Paper.__init__(self, "alike")


class Unlike(Denial):
    """Just one of two claims is so at a setting."""

    def __init__(self, setting):
        Denial.__init__(self, "unlike", setting)
        self.setting = self.parts[0]


def names_of_both(one, other):
    """The names that are free in one of two claims, ascending."""
    return sorted({name: True for name in free_names(one) + free_names(other)})


def setting_where(claim, wanted):
    """A setting for the free names of a claim at which it is as it is wanted; None if there is none."""
    return right_setting(plain_in(claim, wanted), free_names(claim))


def setting_apart(one, other):
    """A setting at which one claim is so and the other one is not; None if there is none."""
    claim = settle(joint("and", [plain_in(one, True), plain_in(other, False)]))
    return right_setting(claim, names_of_both(one, other))


def setting_unlike(one, other):
    """A setting at which just one of two claims is so; None if there is none."""
    found = setting_apart(one, other)
    return setting_apart(other, one) if found is None else found


def judged(claim):
    claim = need_claim(claim, "claim")
    yes = setting_where(claim, True)
    if yes is None:
        return Never()
    no = setting_where(claim, False)
    return Always() if no is None else Sometimes(yes, no)


def follows(one, other):
    one = need_claim(one, "one")
    setting = setting_apart(one, need_claim(other, "other"))
    return Follows() if setting is None else Unless(setting)


def alike(one, other):
    one = need_claim(one, "one")
    setting = setting_unlike(one, need_claim(other, "other"))
    return Alike() if setting is None else Unlike(setting)
