"""Names that are not yet in use."""

from timesagain.checks import LETTERS


def new_names(count, used):
    """The first so many of a to z, a0 to z0, a1 and so on that are none of those used."""
    found = []
    number = 0
    while len(found) < count:
        turn = number // len(LETTERS)
        name = LETTERS[number - turn * len(LETTERS)]
        if turn > 0:
            name += str(turn - 1)
        if name not in used:
            found.append(name)
        number += 1
    return found
