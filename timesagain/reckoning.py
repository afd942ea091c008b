"""What holds for writings that are to reckon so many numbers."""

from timesagain.errors import BadWriting, Misfit
from timesagain.kinds import reckons
from timesagain.writings import is_writing


def check_writing(value, part):
    """Raises BadWriting for what was passed for this part and is no writing."""
    if not is_writing(value):
        raise BadWriting(part)


def check_reckoning(pairs):
    """Raises Misfit unless of each pair the writing reckons as many numbers as the other tells."""
    # Free names of any come ahead of the kinds of all: so none is left out.
    found = [reckons(writing, many) for writing, many in pairs]
    if not all(found):
        raise Misfit("kind")
