"""Writings that reckon: drawn, with the table that the document's rules read off; and what they reckon, counted."""

import itertools

import reference

NUMBERS = ("n", "m", "p")
POOL = "nmpfxuvab"


def drawn_body(draw, numbers, spots, size):
    """A plain writing of the kind of spots, of names of numbers, of f, which is one step, and of spots."""
    if size <= 1 or draw.random() < 0.1:
        return draw.choice(spots)
    if not numbers or draw.random() < 0.3:
        return ("to", "f", drawn_body(draw, numbers, spots, size - 1))
    part = draw.randrange(1, size)
    doing = drawn_doing(draw, numbers, spots, part)
    return ("to", doing, drawn_body(draw, numbers, spots, size - part))


def drawn_doing(draw, numbers, spots, size):
    """A number handed f, or a function of a spot, or such a doing again."""
    inner = draw.random()
    if size <= 1 or inner < 0.15:
        doing = "f"
    elif inner < 0.3:
        return ("to", draw.choice(numbers), drawn_doing(draw, numbers, spots, size - 1))
    else:
        spot = f"u{len(spots)}"
        # The new spot is asked more often than each other one.
        doing = ("of", spot, drawn_body(draw, numbers, spots + [spot] * len(spots), size - 1))
    return ("to", draw.choice(numbers), doing)


def steps_from(writing, sign_of, deep=0):
    """From which spot, and how many steps, by the rules; sign_of tells each number's name its sign in the choice."""
    if isinstance(writing, str):
        return writing, {}
    doing, ahead = writing[1:]
    if doing == "f":
        spot, steps = steps_from(ahead, sign_of, deep)
        return spot, added(steps, {(0,) * len(sign_of): 1})
    name, done = doing[1:]
    if sign_of[name] == 0:
        return steps_from(ahead, sign_of, deep)
    new = f"w{deep}"
    spot, once = done_once(done, new, sign_of, deep + 1)
    if spot != new:
        return spot, once
    place = list(sign_of).index(name)
    once = {powers[:place] + (powers[place] + 1,) + powers[place + 1:]: share for powers, share in once.items()}
    spot, steps = steps_from(ahead, sign_of, deep)
    return spot, added(steps, once)


def done_once(done, new, sign_of, deep):
    """What a doing comes to that is handed this new spot."""
    if done == "f":
        return new, {(0,) * len(sign_of): 1}
    if done[0] == "of":
        return steps_from(reference.replaced(done[2], done[1], new), sign_of, deep)
    return steps_from(("to", done, new), sign_of, deep)


def added(one, other):
    found = dict(one)
    for powers, share in other.items():
        found[powers] = found.get(powers, 0) + share
    return found


def rows_of(body, many):
    """The rows of the table of a body that drawn_body drew, with the spot x."""
    rows = []
    for choice in itertools.product((0, 1), repeat=many):
        spot, steps = steps_from(body, dict(zip(NUMBERS, choice)))
        assert spot == "x"
        rows.append(tuple(sorted(steps.items())))
    return tuple(rows)


def drawn_reckoning(draw, many, size):
    """A plain closed writing that reckons so many numbers, and the rows of its table."""
    body = drawn_body(draw, NUMBERS[:many], ["x"], size)
    writing = body
    for name in reversed(NUMBERS[:many] + ("f", "x")):
        writing = ("of", name, writing)
    return writing, rows_of(body, many)


def dressed(draw, writing, times):
    """The writing with some parts handed in, idle ones too, so that steps lead back to it; and names bound anew."""
    for time in range(times):
        place, part = draw.choice(reference.places(writing))
        writing = reference.with_part(writing, place, handed_in(draw, part, f"v{time}", writing))
    return bound_anew(draw, writing)


def handed_in(draw, part, name, whole):
    """A part of the part, or something idle, handed to what has a name in its stead."""
    place, inner = draw.choice(reference.places(part))
    if draw.random() < 0.2:
        idle = draw.choice([piece for _, piece in reference.places(whole) if not reference.free(piece)])
        return ("to", ("of", name, part), idle)
    if set(reference.free(inner)) - set(reference.free(part)):
        return part
    return ("to", ("of", name, reference.with_part(part, place, name)), inner)


def bound_anew(draw, writing):
    """The writing with names from a small pool, so that many are bound anew; alike to it."""
    for _ in range(20):
        ofs = [(place, part) for place, part in reference.places(writing) if part[0] == "of"]
        place, part = draw.choice(ofs)
        name = draw.choice(POOL)
        new = reference.with_part(writing, place, ("of", name, reference.replaced(part[2], part[1], name)))
        if reference.alike(new, writing):
            writing = new
    return writing


class TooGreat(Exception):
    """More than is to be counted."""


class Later:
    """Something that is found once it is wanted."""

    def __init__(self, find):
        self.find = find

    def value(self):
        if self.find is not None:
            self.found = self.find()
            self.find = None
        return self.found


def meant(writing, named):
    """What Python's functions make of a writing; what is handed is Later."""
    if isinstance(writing, str):
        return named[writing].value()
    if writing[0] == "of":
        return lambda other: meant(writing[2], {**named, writing[1]: other})
    return meant(writing[1], named)(Later(lambda: meant(writing[2], named)))


def so_many_times(number):
    """What a number does: it is handed a doing, and then where to begin."""
    def handed(doing):
        def done(start):
            for _ in range(number):
                start = once_more(doing, start)
            return start.value()
        return done
    return handed


def once_more(doing, start):
    return Later(lambda: doing.value()(start))


def counted(writing, numbers, most=200):
    """What a writing reckons at these numbers; TooGreat above the most, or if it is done too deep within itself."""
    def one_more(start):
        if start.value() >= most:
            raise TooGreat
        return start.value() + 1

    found = meant(writing, {})
    for number in numbers:
        found = found(Later(lambda number=number: so_many_times(number)))
    try:
        return found(Later(lambda: one_more))(Later(lambda: 0))
    except RecursionError:
        raise TooGreat from None
