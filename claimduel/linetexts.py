"""The lines that a desk is told, read item by item; a line that is read is a tuple, its word first."""

from claimduel.claim_texts import next_claim
from claimduel.items import Items, integer_from
from claimduel.layouts import Layout
from claimduel.steps import is_layout

END = "."
NONE = "-"
FIRST = ("claim", "drop", "duel", "move", "reply", "stop", "names", "text", "plain", "free", "judge", "so", "follows",
         "alike", "many", "least", "greatest", "all", "grows", "picture", "turn", "wins", "left", "moves")
# How many names follow a word; none for others.
NAMES = {"drop": 1, "text": 1, "plain": 1, "free": 1, "judge": 1, "follows": 2, "alike": 2, "grows": 3,
         "duel": 1, "so": 1, "many": 2, "least": 2, "greatest": 2, "all": 2, "picture": 2}
WITH_SETTING = ("duel", "so", "many", "least", "greatest", "all", "picture")
MOVES = ("part", "name", "doubt", "take", "lay")


def next_from(items, least):
    """Reads an integer from the least one on."""
    item = items.seen()
    number = None if item is None else integer_from(item)
    if number is None or number < least:
        items.refuse()
    return items.read_integer()


def next_setting(items):
    """Reads pairs of unlike names and integers, up to the end."""
    table = {}
    while items.seen() is not None:
        if items.seen() in table:
            items.refuse()
        name = items.read_name()
        table[name] = items.read_integer()
    return table


def next_end(items):
    """Reads an end of a row of steps."""
    if items.seen() == END:
        items.read_word((END,))
        return None
    return items.read_integer()


def next_steps(items):
    """Reads a row of steps."""
    first = next_end(items)
    if first is None:
        last = items.read_integer()
    elif items.seen() == END:
        last = next_end(items)
    else:
        last = next_from(items, first)
    item = items.seen()
    step = None if item is None else integer_from(item)
    if step is None or step < 1 or (first is not None and last is not None and (last - first) % step != 0):
        items.refuse()
    return (first, last, items.read_integer())


def next_layout(items):
    """Reads the text of a layout."""
    if items.seen() == NONE:
        items.read_word((NONE,))
        return Layout(())
    rows = [next_steps(items)]
    while items.seen() == ",":
        items.read_word((",",))
        rows.append(next_steps(items))
    if not is_layout(rows):
        # Only the whole text shows that it is none of a layout.
        items.refuse_last()
    return Layout(rows)


def next_layouts(items):
    layouts = [next_layout(items)]
    while items.seen() == "/":
        items.read_word(("/",))
        layouts.append(next_layout(items))
    return tuple(layouts)


def next_move(items):
    """Reads a move, as it is made in a duel."""
    label = items.read_word(MOVES)
    if label == "part":
        return (label, next_from(items, 0))
    if label == "name":
        return (label, items.read_integer())
    if label == "doubt":
        index = next_from(items, 0)
        return (label, index, items.read_integer())
    return (label, next_layouts(items)) if label == "lay" else (label,)


def next_rest(items, word):
    """Reads what follows the word of a line, and its names."""
    if word == "claim":
        return [items.read_name(), next_claim(items, ())]
    if word == "move":
        return [next_move(items)]
    rest = [items.read_name() for _ in range(NAMES.get(word, 0))]
    if word == "picture":
        rest.extend([items.read_integer(), items.read_integer()])
    if word in WITH_SETTING:
        rest.append(next_setting(items))
    return rest


def read_line(line):
    """The tuple of a line: its word, and what follows it."""
    items = Items(line)
    word = items.read_word(FIRST)
    rest = next_rest(items, word)
    items.read_end()
    return (word, *rest)
