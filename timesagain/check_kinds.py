"""The check of the papers on the kind of a writing."""

from timesagain.errors import NoPlace
from timesagain.kind_rows import row_in
from timesagain.kinding import breaks_at, most_general
from timesagain.kinds import Kinded, Kindless
from timesagain.layouts import laid_out
from timesagain.places import index_at


def shows_kind(writing, value):
    """Whether the value is a right paper on the kind of the writing."""
    layout = laid_out(writing, "writing")
    if type(value) is Kinded:
        found = most_general(layout)
        return found is not None and same_kind(value.kind, found[0]) and same_pairs(value.free, found[1])
    return type(value) is Kindless and breaks_at_place(layout, value.place)


def same_kind(value, kind):
    """Whether any value is this kind."""
    # Rows tell True from 1, as `==` of kinds does not.
    return row_in(value) == row_in(kind)


def same_pairs(value, pairs):
    """Whether any value is these pairs of names and kinds."""
    if not isinstance(value, tuple) or len(value) != len(pairs):
        return False
    return all([same_pair(told, pair) for told, pair in zip(value, pairs)])


def same_pair(value, pair):
    """Whether any value is this pair of a name and a kind."""
    if not isinstance(value, tuple) or len(value) != 2:
        return False
    return value[0] == pair[0] and same_kind(value[1], pair[1])


def breaks_at_place(layout, place):
    """Whether any value is the place of a part without a kind whose own parts have one."""
    try:
        at = index_at(layout, place)
    except NoPlace:
        return False
    return breaks_at(layout, at)
