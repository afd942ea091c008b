"""What several tests use: values of all sorts, writings drawn by a fixed seed, and what errors are to tell."""

import copy
import random
import unittest

NO_WRITINGS = [
    None, True, False, 0, 1, -1, 1.5, b"a", "", " ", "A", "of", "to", "o f", "a b", "7a", "a_", "abcdefghijklm",
    "\xe9", "a\n", {}, {"of": 1}, {"a"}, object(), (), [], ("a",), ["a"], ("of", "a"), ("to", "a"),
    ("of", "of", "a"), ("of", "to", "a"), ("of", "a", "of"), ("of", "a", "to"), ("to", "of", "a"), ("to", "a", "to"),
    ("of", "x", "x", "x"), ("to", "x", "x", "x"), ("a", "x", "x"), ("OF", "x", "x"), (None, "x", "x"),
    ("of", None, "x"), ("of", True, "x"), ("of", 1, "x"), ("of", ("x",), "x"), ("of", ["to", "a", "b"], "x"),
    (["of"], "x", "x"), ("of", "x", None), ("to", 0, "x"), ("to", "x", {}), ("to", "x", ("of", "x")),
]


class Cases(unittest.TestCase):
    def answers(self, answer, expected):
        """Just this answer: True is no 1, and a list no tuple."""
        self.assertEqual(answer, expected)
        self.assertEqual(repr(answer), repr(expected))

    def refuses(self, error, fields, function, *args, **more):
        """The call raises just this error, with these fields, the very values, and changes nothing."""
        before = copy.deepcopy((args, more)) if not has_odd((args, more)) else None
        with self.assertRaises(error) as caught:
            function(*args, **more)
        self.assertIs(type(caught.exception), error)
        told = list(vars(caught.exception).values())
        self.assertEqual(len(told), len(fields))
        for value, field in zip(told, fields):
            if isinstance(field, (str, int)):
                self.assertEqual(value, field)
                self.assertIs(type(value), type(field))
            else:
                self.assertIs(value, field)
        if before is not None:
            self.assertEqual((args, more), before)


def has_odd(value):
    """Whether something within cannot be compared with a copy of it."""
    if isinstance(value, (list, tuple)):
        return any(has_odd(item) for item in value)
    if isinstance(value, dict):
        return any(has_odd(item) for item in value.values())
    return type(value) is object


def listed(value):
    """The value with each tuple in it as a list."""
    return [listed(item) for item in value] if isinstance(value, (list, tuple)) else value


def mixed(value, turn=0):
    """The value with tuples and lists by turns."""
    if not isinstance(value, (list, tuple)):
        return value
    items = [mixed(item, turn + at + 1) for at, item in enumerate(value)]
    return items if turn % 2 == 0 else tuple(items)


def drawn(draw, signs, names="abcx"):
    """A writing with at most so many signs."""
    if signs <= 1 or draw.random() < 0.1:
        return draw.choice(names)
    if signs == 2 or draw.random() < 0.4:
        return ("of", draw.choice(names), drawn(draw, signs - 1, names))
    first = draw.randrange(1, signs - 1)
    return ("to", drawn(draw, first, names), drawn(draw, signs - 1 - first, names))


def many_drawn(count, signs, names="abcx", seed=0):
    draw = random.Random(seed)
    return [drawn(draw, draw.randrange(1, signs + 1), names) for _ in range(count)]


def spread(writing, signs):
    """A writing of just so many signs, an odd number, in few layers: the writing handed to itself."""
    if signs == 1:
        return writing
    first = (signs - 1) // 2
    first -= (first + 1) % 2
    return ("to", spread(writing, first), spread(writing, signs - 1 - first))


def tower(layers, name="x", end="x"):
    """"of"s around a name, with so many layers in all."""
    for _ in range(layers - 1):
        end = ("of", name, end)
    return end


def chain(layers, name="x", end="x"):
    """A name handed a name handed a name .., with so many layers in all."""
    for _ in range(layers - 1):
        end = ("to", name, end)
    return end
