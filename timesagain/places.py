"""Places: the ways from a writing to its parts."""

from timesagain.checks import is_within
from timesagain.errors import NoPlace
from timesagain.layouts import built_part, laid_out, places_in, with_built


def places_of(writing):
    """All places of the writing, ascending."""
    # A whole stands ahead of its parts in the text, and the one ahead of the other: so it is with places.
    return tuple(places_in(laid_out(writing, "writing")))


def index_at(layout, place):
    """The index of the sign at this place."""
    if not isinstance(place, (list, tuple)):
        raise NoPlace(place)
    at = 0
    for step in place:
        parts = layout.below[at]
        if not is_within(step, 0, len(parts) - 1):
            raise NoPlace(place)
        at = parts[step]
    return at


def part_at(writing, place):
    """The part of the writing at this place."""
    layout = laid_out(writing, "writing")
    return built_part(layout, index_at(layout, place))


def with_part(writing, place, part):
    """The writing with this part at the place, as it stands: free names of the part may be bound there."""
    layout = laid_out(writing, "writing")
    at = index_at(layout, place)
    return with_built(layout, at, built_part(laid_out(part, "part"), 0))
