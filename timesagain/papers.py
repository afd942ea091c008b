"""Papers tell an answer and what shows it; denials are the papers that say no."""


def fixed(value):
    """The value with each list in it as a tuple, all the way in through lists and tuples."""
    if not isinstance(value, (list, tuple)):
        return value
    # A loop, as a comprehension would double the calls that a deep value takes.
    items = []
    for item in value:
        items.append(fixed(item))
    return tuple(items)


def same_papers(one, other):
    """Whether a paper and any value are papers of one class that tell the same."""
    return type(one) is type(other) and one.word == other.word and one.parts == other.parts


class Paper:
    """A paper that tells an answer; it is true."""

    def __init__(self, word, *parts):
        self.word = word
        self.parts = fixed(parts)

    def __eq__(self, other):
        return same_papers(self, other)

    def __bool__(self):
        return True


class Denial(Paper):
    """A paper that says no; it is false."""

    def __init__(self, word, *parts):
        Paper.__init__(self, word, *parts)

    def __eq__(self, other):
        return same_papers(self, other)

    def __bool__(self):
        return False
