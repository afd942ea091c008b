"""Another way to each answer: slow, and as near to the words of the document as can be."""

import itertools


def shape(writing, around=()):
    """The writing without the names of its "of"s: for a bound name the number of "of"s up to its own one."""
    if isinstance(writing, str):
        return around.index(writing) if writing in around else writing
    if writing[0] == "of":
        return ("of", shape(writing[2], (writing[1],) + around))
    return ("to", shape(writing[1], around), shape(writing[2], around))


def alike(one, other):
    return shape(one) == shape(other)


def text(writing):
    return writing if isinstance(writing, str) else " ".join([writing[0], *map(text, writing[1:])])


def signs(writing):
    return 1 if isinstance(writing, str) else 1 + sum(map(signs, own_parts(writing)))


def layers(writing):
    return 1 if isinstance(writing, str) else 1 + max(map(layers, own_parts(writing)))


def own_parts(writing):
    if isinstance(writing, str):
        return ()
    return writing[2:] if writing[0] == "of" else writing[1:]


def places(writing):
    """All places with their parts, ascending by the places."""
    found = [((), writing)]
    for step, part in enumerate(own_parts(writing)):
        found += [((step,) + place, inner) for place, inner in places(part)]
    return sorted(found, key=lambda pair: pair[0])


def free(writing, around=()):
    """The free names as they stand, one for each time."""
    if isinstance(writing, str):
        return [] if writing in around else [writing]
    if writing[0] == "of":
        return free(writing[2], around + (writing[1],))
    return free(writing[1], around) + free(writing[2], around)


def free_names(writing):
    return tuple(dict.fromkeys(free(writing)))


def put_shape(inner, name, other):
    """The shape of a writing with the shape other put for a free name."""
    if not isinstance(inner, tuple):
        return other if inner == name else inner
    return (inner[0],) + tuple(put_shape(part, name, other) for part in inner[1:])


def freshened(writing, fresh, names):
    """The writing with a name of its own for each "of"."""
    if isinstance(writing, str):
        return names.get(writing, writing)
    if writing[0] == "of":
        name = f"x{next(fresh)}x"
        return ("of", name, freshened(writing[2], fresh, {**names, writing[1]: name}))
    return ("to", freshened(writing[1], fresh, names), freshened(writing[2], fresh, names))


def replaced(writing, name, other):
    if isinstance(writing, str):
        return other if writing == name else writing
    if writing[0] == "of":
        return ("of", writing[1], replaced(writing[2], name, other))
    return ("to", replaced(writing[1], name, other), replaced(writing[2], name, other))


def steps(writing):
    return [place for place, part in places(writing) if part[0] == "to" and part[1][0] == "of"]


def with_part(writing, place, part):
    if not place:
        return part
    at = place[0] + (2 if writing[0] == "of" else 1)
    return writing[:at] + (with_part(writing[at], place[1:], part),) + writing[at + 1:]


def step(writing, place):
    """What a step leads to: no name of an "of" stands anywhere else, so nothing can be caught."""
    writing = freshened(writing, itertools.count(), {})
    part = dict(places(writing))[place]
    return with_part(writing, place, replaced(part[1][2], part[1][1], part[2]))


def plain(writing, most):
    """The plain writing and the number of steps; None behind most steps, or beyond 300 signs."""
    for done in range(most + 1):
        found = steps(writing)
        if not found:
            return writing, done
        if done < most and signs(writing) <= 300:
            writing = step(writing, found[0])
    return None


def put_kinds(kind, known):
    while isinstance(kind, str) and kind in known:
        kind = known[kind]
    return kind if isinstance(kind, str) else tuple(put_kinds(part, known) for part in kind)


def stands_in(name, kind):
    return kind == name if isinstance(kind, str) else any(stands_in(name, part) for part in kind)


def unified(one, other, known):
    """What is known of the kind names, so that the two are one; None if they cannot be. Names begin with k."""
    one, other = put_kinds(one, known), put_kinds(other, known)
    if one == other:
        return known
    for name, kind in ((one, other), (other, one)):
        if isinstance(name, str) and name != "o":
            return None if stands_in(name, kind) else {**known, name: kind}
    if isinstance(one, str) or isinstance(other, str):
        return None
    for first, second in zip(one, other):
        known = unified(first, second, known)
        if known is None:
            return None
    return known


def numbered(kinds):
    """The kinds with 0, 1, .. for their names, as these first stand."""
    numbers = {}

    def told(kind):
        if isinstance(kind, str) and kind != "o":
            return numbers.setdefault(kind, len(numbers))
        return kind if isinstance(kind, str) else tuple([told(part) for part in kind])

    return [told(kind) for kind in kinds]


def kind_of(writing):
    """The most general kind and the pairs of the free names; None without one."""
    fresh = (f"k{number}" for number in itertools.count())
    outer = {name: next(fresh) for name in free_names(writing)}

    def kind(part, names, known):
        if isinstance(part, str):
            return names[part], known
        if part[0] == "of":
            mine = next(fresh)
            body, known = kind(part[2], {**names, part[1]: mine}, known)
            return (mine, body), known
        one, known = kind(part[1], names, known)
        if known is None:
            return None, None
        other, known = kind(part[2], names, known)
        if known is None:
            return None, None
        whole = next(fresh)
        return whole, unified(one, (other, whole), known)

    whole, known = kind(writing, outer, {})
    if known is None:
        return None
    told = numbered([put_kinds(whole, known)] + [put_kinds(name, known) for name in outer.values()])
    return told[0], tuple(zip(outer, told[1:]))


def kindless_places(writing):
    """The places of all parts without a kind whose own parts have one."""
    return [
        place for place, part in places(writing)
        if kind_of(part) is None and all(kind_of(inner) is not None for inner in own_parts(part))
    ]


def named_kind(kind, mark):
    """The kind with strings for its names, as unified takes it."""
    if isinstance(kind, int):
        return f"k{mark}{kind}"
    return kind if isinstance(kind, str) else tuple(named_kind(part, mark) for part in kind)


def joined(one, other):
    first, second = named_kind(one, "a"), named_kind(other, "b")
    known = unified(first, second, {})
    return None if known is None else numbered([put_kinds(first, known)])[0]


def put_in_kind(kind, given):
    """The kind with given kinds for its names."""
    if isinstance(kind, int):
        return given[kind]
    return kind if isinstance(kind, str) else tuple(put_in_kind(part, given) for part in kind)
