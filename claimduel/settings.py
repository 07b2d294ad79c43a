"""Settings found at which a claim is so."""

from claimduel.plainly import with_numbers
from claimduel.seeking import some_number
from claimduel.shapes import NO, free_names
from claimduel.striking import cheapest, strike
from claimduel.thinning import settled_whole


def right_setting(claim, names):
    """An ascending tuple of pairs, for just these names, at which a settled claim is so; None if there is none.

    The names are all that are free in the claim, or more. One after the other they are struck; then,
    from the last one on, each gets a number that is right with those behind it.
    """
    stages = []
    left = list(free_names(claim))
    while left:
        name = cheapest(claim, left)
        stages.append((name, claim))
        claim = strike(claim, name)
        left = list(free_names(claim))
    if claim == NO:
        return None
    # A name that went away with another one may have any number.
    table = {name: 0 for name in names}
    known = {name: 0 for name in names if name not in [struck for struck, _ in stages]}
    for name, stage in reversed(stages):
        table[name] = some_number(settled_whole(with_numbers(stage, known)), name)
        known[name] = table[name]
    return tuple(sorted(table.items()))
