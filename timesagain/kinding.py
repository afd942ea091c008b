"""Which kinds the parts of a writing have, each by itself."""

from timesagain.kind_rows import kind_from
from timesagain.layouts import NAME, OF, free_in
from timesagain.ties import Ties


class Kinding:
    """The kinds of the signs of a part of a writing, by itself."""

    def __init__(self, layout, start):
        self.ties = Ties()
        self.named = {}
        kinds = {}
        for at in reversed(range(start, layout.ends[start])):
            kinds[at] = self.kind_at(layout, at, [kinds[part] for part in layout.below[at]])
        self.whole = kinds[start]
        # Nothing in a writing asks for spots, so that only a kind within itself can stand in the way.
        self.can_be = not self.ties.has_ring()

    def kind_at(self, layout, at, parts):
        """The kind of the sign at this index; parts are those of its own parts."""
        word = layout.signs[at][0]
        if word == NAME:
            return self.kind_of_name(layout, at, layout.binders[at])
        if word == OF:
            return self.ties.new((self.kind_of_name(layout, at, at), parts[0]))
        one, other = parts
        kind = self.ties.new(None)
        self.ties.tie(one, self.ties.new((other, kind)))
        return kind

    def kind_of_name(self, layout, at, binder):
        """The kind of the name at this index, the same wherever this "of" binds it, or wherever it is free."""
        key = layout.signs[at][1] if binder is None else binder
        if key not in self.named:
            self.named[key] = self.ties.new(None)
        return self.named[key]


def has_kind(layout, at):
    """Whether the part at this index has a kind, by itself."""
    return Kinding(layout, at).can_be


def most_general(layout):
    """The most general kind and the pairs of the free names and theirs; None for a writing without a kind."""
    kinding = Kinding(layout, 0)
    if not kinding.can_be:
        return None
    numbers = {}
    kind = kind_from(kinding.ties.row(kinding.whole, numbers))
    free = []
    for name in free_in(layout):
        free.append((name, kind_from(kinding.ties.row(kinding.named[name], numbers))))
    return kind, tuple(free)


def breaks_at(layout, at):
    """Whether the part at this index has no kind, by itself, while its own parts have."""
    return not has_kind(layout, at) and all([has_kind(layout, part) for part in layout.below[at]])


def first_without(layout):
    """The index of a part without a kind whose own parts have one; the whole has none."""
    at = innermost_without(layout, heaviest_way(layout, 0))
    while not breaks_at(layout, at):
        one, other = layout.below[at]
        lighter = one if has_kind(layout, other) else other
        at = innermost_without(layout, heaviest_way(layout, lighter))
    return at


def heaviest_way(layout, at):
    """The parts on the way from this one down, always to the own part with the most signs."""
    way = [at]
    while layout.below[way[-1]]:
        way.append(max(layout.below[way[-1]], key=lambda part: layout.ends[part] - part))
    return way


def innermost_without(layout, way):
    """The innermost part on the way that has no kind; the first one has none."""
    # All around a part without a kind have none, so that halving the way finds it; to ask each part would be slow.
    low = 0
    high = len(way) - 1
    while high - low > 1:
        middle = (low + high) // 2
        if has_kind(layout, way[middle]):
            high = middle
        else:
            low = middle
    return way[low]
