"""Kinds that are to be one: what comes of asking so, and whether it can be done."""

from timesagain.kind_rows import PAIR, SPOT


class Ties:
    """Kinds, each told by a number of its own; tied ones are one kind.

    The shape of a kind is None for a kind name, SPOT, or the pair of the numbers of two kinds.
    """

    def __init__(self):
        self.shapes = []
        # From each kind the way leads, step by step, to the one that stands for all that are tied with it.
        self.ways = []

    def new(self, shape):
        """A further kind."""
        self.shapes.append(shape)
        self.ways.append(len(self.ways))
        return len(self.ways) - 1

    def head(self, kind):
        """The one that stands for all that are tied with this kind."""
        while self.ways[kind] != kind:
            # Each way is cut short as it is gone, so that no way stays long.
            self.ways[kind] = self.ways[self.ways[kind]]
            kind = self.ways[kind]
        return kind

    def tie(self, one, other):
        """Ties two kinds, and whatever is to be one then; returns whether that can be done, but for rings."""
        left = [(one, other)]
        while left:
            pair = left.pop()
            first, second = self.head(pair[0]), self.head(pair[1])
            if first == second:
                continue
            mine, theirs = self.shapes[first], self.shapes[second]
            if mine is None:
                self.ways[first] = second
                continue
            self.ways[second] = first
            if theirs is None or mine == theirs:
                continue
            if mine == SPOT or theirs == SPOT:
                return False
            left.extend([(mine[1], theirs[1]), (mine[0], theirs[0])])
        return True

    def pairs(self):
        """The heads that are pairs."""
        return [
            kind for kind, shape in enumerate(self.shapes)
            if isinstance(shape, tuple) and self.ways[kind] == kind
        ]

    def has_ring(self):
        """Whether a kind would stand within itself."""
        pairs = self.pairs()
        # How often each one stands in pairs that are not yet taken away; in a ring none is ever free.
        uses = [0] * len(self.shapes)
        for kind in pairs:
            for part in self.shapes[kind]:
                uses[self.head(part)] += 1
        free = [kind for kind in pairs if uses[kind] == 0]
        taken = 0
        while free:
            taken += 1
            pair = self.shapes[free.pop()]
            for part in pair:
                head = self.head(part)
                uses[head] -= 1
                if uses[head] == 0 and isinstance(self.shapes[head], tuple):
                    free.append(head)
        return taken < len(pairs)

    def row(self, kind, numbers):
        """The row of a kind. In numbers the kind names that stood already have theirs; new ones get the next."""
        row = []
        left = [kind]
        while left:
            head = self.head(left.pop())
            shape = self.shapes[head]
            if shape is None:
                row.append(numbers.setdefault(head, len(numbers)))
            elif shape == SPOT:
                row.append(SPOT)
            else:
                row.append(PAIR)
                left.extend([shape[1], shape[0]])
        return row


def taken_in(ties, row):
    """The number of the kind with this row, with kind names of its own."""
    names = {}
    kinds = []
    for item in reversed(row):
        if item == PAIR:
            first = kinds.pop()
            kinds.append(ties.new((first, kinds.pop())))
        elif item == SPOT:
            kinds.append(ties.new(SPOT))
        else:
            if item not in names:
                names[item] = ties.new(None)
            kinds.append(names[item])
    return kinds[0]
