"""Writings: names, functions of a name, and writings that are handed another one."""

from timesagain.checks import is_name
from timesagain.codes import codes_of
from timesagain.errors import NoName
from timesagain.layouts import NAME, OF, TO, built, built_part, free_in, free_signs, laid_out, signs_in
from timesagain.names import new_names
from timesagain.rows import layers_in
from timesagain.texts import PAIRED, read_items


def is_writing(value):
    """Whether the value is a writing."""
    return signs_in(value) is not None


def signs_of(writing):
    """How many signs the writing has."""
    return len(laid_out(writing, "writing").signs)


def layers_of(writing):
    """How many layers the writing has."""
    return layers_in([word for word, _ in laid_out(writing, "writing").signs])


def free_names(writing):
    """The free names, each once, in the order in which they first stand in the text."""
    return free_in(laid_out(writing, "writing"))


def alike(one, other):
    """Whether the two are alike in writing."""
    first = laid_out(one, "one")
    second = laid_out(other, "other")
    return codes_of(first) == codes_of(second)


def put(writing, name, other):
    """The writing with other put for the name; "of"s that would bind what is free in other get new names."""
    layout = laid_out(writing, "writing")
    if not is_name(name):
        raise NoName(name)
    inner = laid_out(other, "other")
    gone = {at: True for at in free_signs(layout) if layout.signs[at][1] == name}
    names = names_for_catching(layout, gone, inner)
    part = built_part(inner, 0)
    signs = []
    for at, (word, old) in enumerate(layout.signs):
        if at in gone:
            signs.append((NAME, part))
        else:
            binder = at if word == OF else layout.binders[at]
            signs.append((word, names.get(binder, old)))
    return built(signs)


def names_for_catching(layout, gone, inner):
    """A new name for each "of" around one of the gone signs that would bind a free name of inner."""
    around = {}
    for at in gone:
        binder = layout.around[at]
        while binder is not None and binder not in around:
            around[binder] = True
            binder = layout.around[binder]
    free = {name: True for name in free_in(inner)}
    catching = [binder for binder in around if layout.signs[binder][1] in free]
    used = {name: True for _, name in layout.signs + inner.signs}
    return {binder: name for binder, name in zip(catching, new_names(len(catching), used))}


def writing_text(writing):
    """The text of the writing."""
    items = []
    for word, name in laid_out(writing, "writing").signs:
        if word != NAME:
            items.append(word)
        if word != TO:
            items.append(name)
    return " ".join(items)


def stands_in_writing(item, ahead):
    """Whether the item can stand in the text of a writing behind the one ahead of it."""
    return is_name(item) or (item in (OF, TO) and ahead != OF)


def read_writing(text):
    """The writing whose text this is."""
    parts = []
    for item in reversed(read_items(text, stands_in_writing)):
        if item in PAIRED:
            one = parts.pop()
            parts.append((item, one, parts.pop()))
        else:
            parts.append(item)
    return parts[0]
