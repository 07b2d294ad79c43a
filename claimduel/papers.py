"""Papers: what tells an answer, and what shows it."""

from claimduel.checks import is_list


def fixed(value):
    if not is_list(value):
        return value
    # A loop, not a comprehension: each level of nesting costs one call then.
    parts = []
    for part in value:
        parts.append(fixed(part))
    return tuple(parts)


def are_same(one, other):
    """Whether a paper and any value are equal papers."""
    if not isinstance(other, Paper) or one.__class__.__name__ != other.__class__.__name__:
        return False
    return one.word == other.word and one.parts == other.parts


class Paper:
    """A paper that says yes."""

    def __init__(self, word, *parts):
        self.word = fixed(word)
        self.parts = fixed(parts)

    def __eq__(self, other):
        return are_same(self, other)

    def __bool__(self):
        return True


class Denial(Paper):
    """A paper that says no."""

    def __init__(self, word, *parts):
        Paper.__init__(self, word, *parts)

    def __eq__(self, other):
        return are_same(self, other)

    def __bool__(self):
        return False
