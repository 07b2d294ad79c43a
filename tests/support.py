"""What the tests share: odd values, errors caught, claims made at random."""

import random


class Odd:
    """An object that lets nothing be asked of it."""

    def refuse(self, *told):
        raise RuntimeError("asked")

    __eq__ = __ne__ = __lt__ = __bool__ = __len__ = __iter__ = __getitem__ = refuse
    __hash__ = __contains__ = __str__ = __repr__ = __int__ = __index__ = refuse


def nested(depth, value=()):
    """A value in lists and tuples by turns."""
    for k in range(depth):
        value = [value] if k % 2 else (value,)
    return value


ODD_VALUES = [
    None, True, False, 1.5, float("nan"), float("inf"), 2j, "", " ", "x ", "some", b"x", bytearray(b"x"),
    object(), Odd(), [Odd()], (Odd(), Odd()), {}, {1: 2}, {"x": 1}, {Ellipsis: 1}, set(), {1, 2},
    frozenset(), range(3), iter(()), int, len, Ellipsis, [], (), [[]], ((),), [None], ["x"], [("x",)],
    [("x", True)], ("x", 1), [1, 2, 3], nested(60), nested(60, "yes"), "y" * 9, -1, 0, 10 ** 59,
]


def is_among(value, values):
    return any(value is other for other in values)


def odd_but(*kinds):
    """The odd values that are not of these kinds; True and False are no integers."""
    return [value for value in ODD_VALUES
            if not isinstance(value, kinds) or (isinstance(value, bool) and bool not in kinds)]


def told(function, *args, **named):
    """The error that a call raises, as a tuple of its class's name and its fields; None for none."""
    try:
        function(*args, **named)
    except ValueError as error:
        return (type(error).__name__, *vars(error).values())
    return None


def random_form(chance, names, factors=(-3, -2, -1, 1, 2, 3), span=6):
    chosen = sorted(chance.sample(names, chance.randint(0, len(names))))
    return (chance.randint(-span, span), tuple((name, chance.choice(factors)) for name in chosen))


def random_plain(chance, names, depth, ms=(2, 3, 4), **told_of_forms):
    leaves = ["below", "zero", "rests", "below", "zero", "rests", "yes", "no"]
    label = chance.choice(leaves if depth == 0 else leaves[:3] + ["not", "and", "or"] * 2)
    if label in ("yes", "no"):
        return (label,)
    if label in ("below", "zero"):
        return (label, random_form(chance, names, **told_of_forms))
    if label == "rests":
        return (label, chance.choice(ms), random_form(chance, names, **told_of_forms))
    many = 1 if label == "not" else chance.randint(2, 3)
    return (label, *(random_plain(chance, names, depth - 1, ms, **told_of_forms) for _ in range(many)))


def random_claim(chance, names, depth, bound=()):
    """Any claim. The free names may be bound in it, too."""
    label = chance.choice(["plain", "not", "and", "or", "all", "some", "endless", "count"])
    if depth == 0 or label == "plain":
        return random_plain(chance, sorted({*names, *bound}), 1)
    if label == "not":
        return (label, random_claim(chance, names, depth - 1, bound))
    if label in ("and", "or"):
        return (label, *(random_claim(chance, names, depth - 1, bound) for _ in range(chance.randint(2, 3))))

    def binding():
        name = chance.choice([name for name in (*names, "k", "l", "m", "p", "q") if name not in bound])
        return name, random_claim(chance, names, depth - 1, (*bound, name))

    if label != "count":
        return (label, *binding())
    rows = tuple((chance.choice([-2, -1, 1, 3]), *binding()) for _ in range(chance.randint(1, 4)))
    return (label, chance.choice(["below", "zero"]), random_form(chance, sorted({*names, *bound})), rows)


def lists(value):
    """The value with lists in the place of tuples, all the way in."""
    return [lists(part) for part in value] if isinstance(value, tuple) else value


def chance(seed):
    return random.Random(seed)
