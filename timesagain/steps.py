"""Steps: what a writing comes to when what is handed on is put in."""

from timesagain.checks import is_within
from timesagain.codes import codes_of, first_step, named, stepped
from timesagain.errors import BadNumber, NoPlace, TooMany
from timesagain.layouts import OF, TO, built, built_part, laid_out, places_in, with_built
from timesagain.papers import Paper
from timesagain.places import index_at
from timesagain.rows import layers_in
from timesagain.writings import put

MOST_SIGNS = 2000
MOST_LAYERS = 200
MOST_STEPS = 1000


class Plain(Paper):
    """The plain writing to which a writing comes, and by how many steps."""

    def __init__(self, writing, steps):
        Paper.__init__(self, "plain", writing, steps)
        self.writing, self.steps = self.parts


def is_step(layout, at):
    """Whether a step can be done at this index."""
    return layout.signs[at][0] == TO and layout.signs[at + 1][0] == OF


def steps_of(writing):
    """The places at which a step can be done, ascending."""
    layout = laid_out(writing, "writing")
    return tuple([place for at, place in enumerate(places_in(layout)) if is_step(layout, at)])


def is_plain(writing):
    """Whether no step can be done."""
    return steps_of(writing) == ()


def step_at(writing, place):
    """What a step at this place leads to."""
    layout = laid_out(writing, "writing")
    at = index_at(layout, place)
    if not is_step(layout, at):
        raise NoPlace(place)
    one, other = layout.below[at]
    body = built_part(layout, one + 1)
    return with_built(layout, at, put(body, layout.signs[one][1], built_part(layout, other)))


def plain(writing, most):
    """The Plain of the writing to which it comes by steps at the first place, and of their number."""
    layout = laid_out(writing, "writing")
    if not is_within(most, 0, MOST_STEPS):
        raise BadNumber("most")
    codes = codes_of(layout)
    steps = 0
    refuse_great(codes)
    at = first_step(codes, 0)
    while at is not None:
        if steps == most:
            raise TooMany("steps", most)
        codes = stepped(codes, at)
        steps += 1
        refuse_great(codes)
        # Ahead of the last step none could be done; only what stands just ahead of it may begin one now.
        at = first_step(codes, max(at - 1, 0))
    return Plain(named(codes) if steps > 0 else built(layout.signs), steps)


def refuse_great(codes):
    """Raises TooMany for a writing with too many signs or layers."""
    if len(codes) > MOST_SIGNS:
        raise TooMany("signs", MOST_SIGNS)
    # There are never more layers than signs.
    if len(codes) > MOST_LAYERS and layers_in(codes) > MOST_LAYERS:
        raise TooMany("layers", MOST_LAYERS)
