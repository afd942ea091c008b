"""Kinds: what may be handed to what."""

from timesagain.bounds import check_many
from timesagain.errors import Misfit
from timesagain.kind_rows import PAIR, SPOT, kind_from, row_in, row_of
from timesagain.kinding import first_without, most_general
from timesagain.layouts import free_in, laid_out, places_in
from timesagain.papers import Denial, Paper
from timesagain.rows import part_end
from timesagain.texts import is_number_text, read_items
from timesagain.ties import Ties, taken_in


class Kinded(Paper):
    """The most general kind of a writing, and the pairs of its free names and theirs."""

    def __init__(self, kind, free):
        Paper.__init__(self, "kinded", kind, free)
        self.kind, self.free = self.parts


class Kindless(Denial):
    """The place of a part that has no kind, while its own parts have."""

    def __init__(self, place):
        Denial.__init__(self, "kindless", place)
        self.place = self.parts[0]


def is_kind(value):
    """Whether the value is a kind."""
    return row_in(value) is not None


def number_kind():
    """The kind of the number writings."""
    return ((SPOT, SPOT), (SPOT, SPOT))


def reckoning_kind(many):
    """The kind of the writings that reckon so many numbers."""
    check_many(many)
    kind = number_kind()
    for _ in range(many):
        kind = (number_kind(), kind)
    return kind


def kind_text(kind):
    """The text of the kind."""
    return " ".join([str(item) for item in row_of(kind, "kind")])


def read_kind(text):
    """The kind whose text this is."""
    items = read_items(text, stands_in_kind)
    return kind_from([item if item in (PAIR, SPOT) else int(item) for item in items])


def stands_in_kind(item, _):
    """Whether the item can stand in the text of a kind, whatever is ahead of it."""
    return item in (PAIR, SPOT) or is_number_text(item)


def is_instance(kind, general):
    """Whether the kind is an instance of the general one."""
    row = row_of(kind, "kind")
    put_for = {}
    at = 0
    for item in row_of(general, "general"):
        end = at + 1
        if item not in (PAIR, SPOT):
            end = part_end(row, at)
            if put_for.setdefault(item, row[at:end]) != row[at:end]:
                return False
        elif row[at] != item:
            return False
        at = end
    return True


def joined(one, other):
    """The most general kind that is an instance of both; None without one."""
    first = row_of(one, "one")
    second = row_of(other, "other")
    ties = Ties()
    kind = taken_in(ties, first)
    if not ties.tie(kind, taken_in(ties, second)) or ties.has_ring():
        return None
    return kind_from(ties.row(kind, {}))


def kind_of(writing):
    """The Kinded of the writing, or a Kindless."""
    layout = laid_out(writing, "writing")
    found = most_general(layout)
    if found is None:
        return Kindless(places_in(layout)[first_without(layout)])
    kind, free = found
    return Kinded(kind, free)


def reckons(writing, many):
    """Whether the closed writing reckons so many numbers."""
    layout = laid_out(writing, "writing")
    asked = reckoning_kind(many)
    if free_in(layout):
        raise Misfit("free")
    found = most_general(layout)
    return found is not None and is_instance(asked, found[0])
