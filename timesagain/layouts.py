"""Writings laid out: the row of their signs, so that no function calls itself for each layer."""

from timesagain.checks import is_name
from timesagain.errors import BadWriting
from timesagain.rows import bounds_in

OF = "of"
TO = "to"
NAME = "name"


class Layout:
    """A writing as the row of its signs, each told by its index, in the order of the text.

    A sign is a pair (word, name): (OF, the name that it binds), (TO, None) or (NAME, this name).
    """

    def __init__(self, signs):
        self.signs = signs
        self.ends, self.below = bounds_in([word for word, _ in signs])
        self.around = ofs_around(signs, self.below)
        self.binders = [binder_of(signs, self.around, at) for at in range(len(signs))]


def ofs_around(signs, below):
    """For each sign the innermost "of" around it, None without one."""
    around = [None] * len(signs)
    for at, (word, _) in enumerate(signs):
        for part in below[at]:
            around[part] = at if word == OF else around[at]
    return around


def binder_of(signs, around, at):
    """The "of" that binds the name at this index; None for what is free, or no name."""
    word, name = signs[at]
    found = around[at] if word == NAME else None
    while found is not None and signs[found][1] != name:
        found = around[found]
    return found


def signs_in(value):
    """The signs of a writing; None for what is no writing."""
    signs = []
    left = [value]
    while left:
        part = left.pop()
        if is_name(part):
            signs.append((NAME, part))
        elif not isinstance(part, (list, tuple)) or len(part) != 3:
            return None
        elif part[0] == OF and is_name(part[1]):
            signs.append((OF, part[1]))
            left.append(part[2])
        elif part[0] == TO:
            signs.append((TO, None))
            left.extend([part[2], part[1]])
        else:
            return None
    return signs


def laid_out(value, part):
    """The Layout of a writing that was passed for this part."""
    signs = signs_in(value)
    if signs is None:
        raise BadWriting(part)
    return Layout(signs)


def built(signs):
    """The writing with these signs; behind a NAME may stand any writing, built already."""
    parts = []
    for word, name in reversed(signs):
        if word == OF:
            parts.append((OF, name, parts.pop()))
        elif word == TO:
            one = parts.pop()
            parts.append((TO, one, parts.pop()))
        else:
            parts.append(name)
    return parts[0]


def built_part(layout, at):
    """The part that begins at this index."""
    return built(layout.signs[at:layout.ends[at]])


def with_built(layout, at, part):
    """The writing with another part, built already, at this index."""
    return built(layout.signs[:at] + [(NAME, part)] + layout.signs[layout.ends[at]:])


def free_signs(layout):
    """The indices of the free names."""
    return [
        at for at, (word, _) in enumerate(layout.signs)
        if word == NAME and layout.binders[at] is None
    ]


def free_in(layout):
    """The free names, each once, in the order in which they first stand."""
    found = {}
    for at in free_signs(layout):
        found[layout.signs[at][1]] = True
    return tuple(found)


def places_in(layout):
    """The place of each sign."""
    places = [()] * len(layout.signs)
    for at, parts in enumerate(layout.below):
        for step, part in enumerate(parts):
            places[part] = places[at] + (step,)
    return places
