"""What may be asked of any value: is it an integer, a list of numbers, a name."""

# Written out: what Python calls a letter or a digit goes far beyond these.
LETTERS = "abcdefghijklmnopqrstuvwxyz"
DIGITS = "0123456789"
LONGEST_NAME = 12
NO_NAMES = ("of", "to")


def is_integer(value):
    """Whether the value is an integer; True and False are none."""
    # Python takes True and False for integers.
    return isinstance(value, int) and not isinstance(value, bool)


def is_within(value, least, most):
    """Whether the value is an integer from least to most; None is no bound."""
    if not is_integer(value):
        return False
    return (least is None or least <= value) and (most is None or value <= most)


def are_numbers(value):
    """Whether the value is a list or tuple of integers from 0 on."""
    if not isinstance(value, (list, tuple)):
        return False
    return all([is_within(item, 0, None) for item in value])


def is_name(value):
    """Whether the value is a name that may stand in a writing."""
    if not isinstance(value, str) or value in NO_NAMES:
        return False
    if not is_within(len(value), 1, LONGEST_NAME) or value[0] not in LETTERS:
        return False
    return all([sign in LETTERS or sign in DIGITS for sign in value])
