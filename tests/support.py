"""What the tests share: odd values, errors caught, claims made at random."""

import random


class Odd:
    """An object that lets nothing be asked of it."""

    def refuse(self, *told):
        raise RuntimeError("asked")

    __eq__ = __ne__ = __lt__ = __bool__ = __len__ = __iter__ = __getitem__ = refuse
    __hash__ = __contains__ = __str__ = __repr__ = __int__ = __index__ = refuse


def nested(depth, value=()):
    """A value in lists and tuples by turns."""
    for k in range(depth):
        value = [value] if k % 2 else (value,)
    return value


ODD_VALUES = [
    None, True, False, 1.5, float("nan"), float("inf"), 2j, "", " ", "x ", "some", b"x", bytearray(b"x"),
    object(), Odd(), [Odd()], (Odd(), Odd()), {}, {1: 2}, {"x": 1}, {Ellipsis: 1}, set(), {1, 2},
    frozenset(), range(3), iter(()), int, len, Ellipsis, [], (), [[]], ((),), [None], ["x"], [("x",)],
    [("x", True)], ("x", 1), [1, 2, 3], nested(60), nested(60, "yes"), "y" * 9, -1, 0, 10 ** 59,
]


def is_among(value, values):
    return any(value is other for other in values)


def odd_but(*kinds):
    """The odd values that are not of these kinds; True and False are no integers."""
    return [value for value in ODD_VALUES
            if not isinstance(value, kinds) or (isinstance(value, bool) and bool not in kinds)]


def told(function, *args, **named):
    """The error that a call raises, as a tuple of its class's name and its fields; None for none."""
    try:
        function(*args, **named)
    except ValueError as error:
        return (type(error).__name__, *vars(error).values())
    return None


def random_form(chance, names, factors=(-3, -2, -1, 1, 2, 3), span=6):
    chosen = sorted(chance.sample(names, chance.randint(0, len(names))))
    return (chance.randint(-span, span), tuple((name, chance.choice(factors)) for name in chosen))


def random_plain(chance, names, depth, ms=(2, 3, 4), **told_of_forms):
    leaves = ["below", "zero", "rests", "below", "zero", "rests", "yes", "no"]
    label = chance.choice(leaves if depth == 0 else leaves[:3] + ["not", "and", "or"] * 2)
    if label in ("yes", "no"):
        return (label,)
    if label in ("below", "zero"):
        return (label, random_form(chance, names, **told_of_forms))
    if label == "rests":
        return (label, chance.choice(ms), random_form(chance, names, **told_of_forms))
    many = 1 if label == "not" else chance.randint(2, 3)
    return (label, *(random_plain(chance, names, depth - 1, ms, **told_of_forms) for _ in range(many)))


def random_claim(chance, names, depth, bound=()):
    """Any claim. The free names may be bound in it, too."""
    label = chance.choice(["plain", "not", "and", "or", "all", "some", "endless", "count"])
    if depth == 0 or label == "plain":
        return random_plain(chance, sorted({*names, *bound}), 1)
    if label == "not":
        return (label, random_claim(chance, names, depth - 1, bound))
    if label in ("and", "or"):
        return (label, *(random_claim(chance, names, depth - 1, bound) for _ in range(chance.randint(2, 3))))

    def binding():
        name = chance.choice([name for name in (*names, "k", "l", "m", "p", "q") if name not in bound])
        return name, random_claim(chance, names, depth - 1, (*bound, name))

    if label != "count":
        return (label, *binding())
    rows = tuple((chance.choice([-2, -1, 1, 3]), *binding()) for _ in range(chance.randint(1, 4)))
    return (label, chance.choice(["below", "zero"]), random_form(chance, sorted({*names, *bound})), rows)


def lists(value):
    """The value with lists in the place of tuples, all the way in."""
    return [lists(part) for part in value] if isinstance(value, tuple) else value


def chance(seed):
    return random.Random(seed)


def random_literal(chance, names, kinds=("below", "zero", "rests"), ms=(2, 3), factors=(-1, 1), span=9, must=(), two=None):
    """A comparison or division over some of the names and all that must be in it, or the not of one.

    The name two has 2 or -2 for its factor.
    """
    chosen = sorted({*chance.sample(list(names), chance.randint(1, len(names))), *must})
    pairs = tuple((name, chance.choice((-2, 2) if name == two else factors)) for name in chosen)
    kind, form = chance.choice(kinds), (chance.randint(-span, span), pairs)
    literal = (kind, chance.choice(ms), form) if kind == "rests" else (kind, form)
    return ("not", literal) if chance.random() < 0.4 else literal


def random_tree(chance, literals):
    """A claim of just these literals, joined by "and", "or", "not"."""
    if len(literals) == 1:
        return literals[0]
    literals = chance.sample(literals, len(literals))
    at = chance.randint(1, len(literals) - 1)
    claim = (chance.choice(("and", "or")), random_tree(chance, literals[:at]), random_tree(chance, literals[at:]))
    return ("not", claim) if chance.random() < 0.2 else claim


def random_bound(chance, claim, names, labels=("some", "all", "endless", "count")):
    """The claim with the names bound around it, the last one outermost."""
    for name in names:
        label = chance.choice(labels)
        if label == "count":
            rows = ((chance.choice((-2, -1, 1, 2)), name, claim),)
            claim = (label, chance.choice(("below", "zero")), (chance.randint(-4, 4), ()), rows)
        else:
            claim = (label, name, claim)
        claim = ("not", claim) if chance.random() < 0.3 else claim
    return claim


def random_number(chance):
    """A number near 0, or far away."""
    return chance.choice((chance.randint(-12, 12), chance.randint(-12, 12), chance.randint(-10 ** 40, 10 ** 40)))


def random_setting(chance, names):
    """Numbers near 0, far away, or near one another far away."""
    base = chance.choice((0, 0, chance.randint(-10 ** 40, 10 ** 40)))
    if chance.random() < 0.2:
        return {name: random_number(chance) for name in names}
    return {name: base + chance.randint(-12, 12) for name in names}


def below(constant, **factors):
    return ("below", (constant, tuple(sorted(factors.items()))))


def zero(constant, **factors):
    return ("zero", (constant, tuple(sorted(factors.items()))))


def rests(m, constant, **factors):
    return ("rests", m, (constant, tuple(sorted(factors.items()))))


def from_to(name, low, high):
    """The claim that a name is from low to below high."""
    return ("and", ("not", below(-low, **{name: 1})), below(-high, **{name: 1}))


BAD_CLAIMS = [("and", ("yes",)), ("rests", 1, (0, ())), ("some", "x", ("all", "x", ("yes",))), "yes", None, ("yes", ()),
              ("below", (True, ())), Odd(), [Odd()], {}, ("count", "zero", (0, ()), ())]
BAD_PLAIN = BAD_CLAIMS + [("some", "x", ("yes",)), ("not", ("endless", "y", ("no",))),
                          ("count", "zero", (0, ()), ((1, "x", ("yes",)),))]
BAD_NAMES = [None, True, 1, "", "X", "some", "x y", "1x", "abcdefghi", b"x", ("x",), ["x"], Odd()]
BAD_SETTINGS = [None, 5, "x", [("x", True)], [("x", 1), ("x", 1)], {"X": 1}, [Odd()], Odd(), ("x", 1), {"x": 1.0},
                {1: 1}, [("x",)], {"x": None}]
BAD_NUMBERS = [None, True, False, 1.0, "1", (), [1], Odd()]
