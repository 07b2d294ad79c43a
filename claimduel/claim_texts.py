"""The texts of forms and claims, written and read."""

from claimduel.checks import is_name
from claimduel.claims import MOST_ROWS, need_claim
from claimduel.forms import need_form
from claimduel.items import Items
from claimduel.shapes import BINDERS

SIGNS = {"below": "<", "zero": "="}
KINDS = {"<": "below", "=": "zero"}
OPENERS = ("yes", "no", "not", "(", "all", "some", "endless")
MOST_ABOVE = 80


def pair_items(form):
    """The items of a form but for its constant."""
    items = []
    for name, factor in form[1]:
        items.extend([f"{factor}", name, "+"])
    return items


def form_items(form):
    return pair_items(form) + [f"{form[0]}"]


def count_items(claim, out):
    """Adds the items of a count comparison."""
    _, kind, form, rows = claim
    out.extend(pair_items(form))
    for factor, name, part in rows:
        out.extend([f"{factor}", "[", "many", name, ":"])
        add_items(part, out)
        out.extend(["]", "+"])
    out.extend([f"{form[0]}", SIGNS[kind], "0"])


def add_items(claim, out):
    """Adds the items of a claim to a list."""
    label = claim[0]
    if label in SIGNS:
        out.extend(form_items(claim[1]) + [SIGNS[label], "0"])
    elif label == "rests":
        out.extend([f"{claim[1]}", "|"] + form_items(claim[2]))
    elif label == "count":
        count_items(claim, out)
    elif label in BINDERS:
        out.extend([label, claim[1], ":"])
        add_items(claim[2], out)
    elif label in ("and", "or"):
        for at, part in enumerate(claim[1:]):
            out.append("(" if at == 0 else label)
            add_items(part, out)
        out.append(")")
    else:
        out.append(label)
        if label == "not":
            add_items(claim[1], out)


def form_text(form):
    return " ".join(form_items(need_form(form, "form")))


def claim_text(claim):
    out = []
    add_items(need_claim(claim, "claim"), out)
    return " ".join(out)


def next_pairs(items, number):
    """Reads on behind the first integer of a form: the integer behind its pairs, and these.

    A name that cannot stand ends them, too: it is refused there, as no name stands behind a form.
    """
    pairs = []
    while number != 0 and is_name(items.seen()) and (not pairs or pairs[-1][0] < items.seen()):
        pairs.append((items.read_name(), number))
        items.read_word(("+",))
        number = items.read_integer()
    return number, tuple(pairs)


def next_form(items):
    return next_pairs(items, items.read_integer())


def next_bound(items, around):
    """Reads a name to be bound, and the claim in which it is: the pair of them."""
    if items.seen() in around:
        items.refuse()
    name = items.read_name()
    items.read_word((":",))
    return name, next_claim(items, around + (name,))


def next_rows(items, number, around):
    """Reads the rows of a count comparison, from behind the first factor: the constant, and them."""
    rows = []
    while number != 0 and items.seen() == "[" and len(rows) < MOST_ROWS:
        items.read_word(("[",))
        items.read_word(("many",))
        name, part = next_bound(items, around)
        items.read_word(("]",))
        items.read_word(("+",))
        rows.append((number, name, part))
        number = items.read_integer()
    return number, tuple(rows)


def next_comparison(items, number, around):
    """Reads on behind the first integer of a comparison, of a count comparison, too."""
    number, pairs = next_pairs(items, number)
    constant, rows = next_rows(items, number, around)
    kind = KINDS[items.read_word(("<", "="))]
    items.read_word(("0",))
    if rows:
        return ("count", kind, (constant, pairs), rows)
    return (kind, (constant, pairs))


def next_joined(items, around):
    """Reads an "and" or an "or" behind its bracket."""
    parts = [next_claim(items, around + (None,))]
    label = items.read_word(("and", "or"))
    parts.append(next_claim(items, around + (None,)))
    while items.read_word((label, ")")) == label:
        parts.append(next_claim(items, around + (None,)))
    return (label, *parts)


def next_claim(items, around):
    """Reads a claim. Around has the name that is bound, or None, for each claim above this one."""
    if len(around) >= MOST_ABOVE:
        items.refuse()
    label = items.seen()
    if label not in OPENERS:
        number = items.read_integer()
        if number >= 2 and items.seen() == "|":
            items.read_word(("|",))
            return ("rests", number, next_form(items))
        return next_comparison(items, number, around)
    items.read_word((label,))
    if label == "(":
        return next_joined(items, around)
    if label == "not":
        return (label, next_claim(items, around + (None,)))
    if label in BINDERS:
        name, part = next_bound(items, around)
        return (label, name, part)
    return (label,)


def read_form(text):
    items = Items(text)
    form = next_form(items)
    items.read_end()
    return form


def read_claim(text):
    items = Items(text)
    claim = next_claim(items, ())
    items.read_end()
    return claim
