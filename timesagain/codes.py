"""Codes: rows in which the names of what is bound do not matter.

A code is "of", "to", a free name, or for a bound name the number of "of"s between it and its own one.
"""

from timesagain.layouts import NAME, OF, TO, built
from timesagain.names import new_names
from timesagain.rows import part_end


def depths_in(row):
    """For each item how many "of"s are around it."""
    depths = []
    left = [0]
    for item in row:
        depth = left.pop()
        depths.append(depth)
        if item == OF:
            left.append(depth + 1)
        elif item == TO:
            left.extend([depth, depth])
    return depths


def codes_of(layout):
    """The codes of a writing; alike writings have the same ones."""
    depths = depths_in([word for word, _ in layout.signs])
    codes = []
    for at, (word, name) in enumerate(layout.signs):
        binder = layout.binders[at]
        if word != NAME:
            codes.append(word)
        elif binder is None:
            codes.append(name)
        else:
            codes.append(depths[at] - depths[binder] - 1)
    return codes


def named(codes):
    """A writing with these codes."""
    depths = depths_in(codes)
    used = {code: True for code in codes if isinstance(code, str)}
    names = new_names(max(depths) + 1, used)
    signs = []
    for code, depth in zip(codes, depths):
        if code == OF:
            signs.append((OF, names[depth]))
        elif code == TO:
            signs.append((TO, None))
        elif isinstance(code, str):
            signs.append((NAME, code))
        else:
            signs.append((NAME, names[depth - code - 1]))
    return built(signs)


def first_step(codes, start):
    """The first index from start on at which a step can be done; None without one."""
    for at in range(start, len(codes) - 1):
        if codes[at] == TO and codes[at + 1] == OF:
            return at
    return None


def stepped(codes, at):
    """What a step at this index leads to."""
    middle = part_end(codes, at + 1)
    end = part_end(codes, middle)
    return codes[:at] + put_in(codes[at + 2:middle], codes[middle:end]) + codes[end:]


def put_in(body, other):
    """The body of an "of" with other for what this binds."""
    loose = [at for at, (code, depth) in enumerate(zip(other, depths_in(other))) if is_loose(code, depth)]
    done = []
    for code, depth in zip(body, depths_in(body)):
        if code == depth:
            done.extend(moved(other, loose, depth))
        elif is_loose(code, depth):
            # The "of" that is gone stood between this and its own one.
            done.append(code - 1)
        else:
            done.append(code)
    return done


def is_loose(code, depth):
    """Whether a code stands for what is bound outside of its row."""
    return isinstance(code, int) and code >= depth


def moved(codes, loose, by):
    """The codes with so many more "of"s around; those at the loose indices are bound beyond these."""
    done = list(codes)
    for at in loose:
        done[at] += by
    return done
