"""Kinds as rows of items: ">" ahead of the two kinds of a pair, "o", or a kind name."""

from timesagain.checks import is_within
from timesagain.errors import BadKind

PAIR = ">"
SPOT = "o"


def row_in(value):
    """The row of a kind; None for what is no kind."""
    row = []
    left = [value]
    while left:
        part = left.pop()
        if isinstance(part, (list, tuple)) and len(part) == 2:
            row.append(PAIR)
            left.extend([part[1], part[0]])
        elif is_within(part, 0, None) or (isinstance(part, str) and part == SPOT):
            row.append(part)
        else:
            return None
    return row


def row_of(value, part):
    """The row of a kind that was passed for this part."""
    row = row_in(value)
    if row is None:
        raise BadKind(part)
    return row


def kind_from(row):
    """The kind with this row."""
    kinds = []
    for item in reversed(row):
        if item == PAIR:
            first = kinds.pop()
            kinds.append((first, kinds.pop()))
        else:
            kinds.append(item)
    return kinds[0]
