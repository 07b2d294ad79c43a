"""Settings found at which a claim is so."""

from claimduel.finding import Search
from claimduel.plainly import with_numbers
from claimduel.seeking import some_number
from claimduel.shapes import NO, free_names
from claimduel.striking import cheapest, strike
from claimduel.thinning import settled_whole

# So many cases are looked at before the names are struck.
MOST_CASES = 500


def right_setting(claim, names):
    """An ascending tuple of pairs, for just these names, at which a settled claim is so; None if there is none.

    The names are all that are free in the claim, or more.
    """
    if len(free_names(claim)) > 1:
        search = Search(list(names), MOST_CASES)
        table = search.find(claim, 0)
        if table is not None or not search.is_spent():
            return None if table is None else tuple(sorted(table.items()))
    return struck_setting(claim, names)


def struck_setting(claim, names):
    """As right_setting: the names are struck one by one; then each gets a number right with those behind it."""
    stages = []
    left = list(free_names(claim))
    while left:
        name = cheapest(claim, left)
        stages.append((name, claim))
        claim = strike(claim, name)
        left = list(free_names(claim))
    if claim == NO:
        return None
    # A name that went away with another one may have any number.
    table = {name: 0 for name in names}
    known = {name: 0 for name in names if name not in [struck for struck, _ in stages]}
    for name, stage in reversed(stages):
        table[name] = some_number(settled_whole(with_numbers(stage, known)), name)
        known[name] = table[name]
    return tuple(sorted(table.items()))
