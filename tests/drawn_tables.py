"""Tables drawn by a fixed seed, and what they tell, reckoned in the plainest way."""

import itertools

from timesagain.tables import Table

GREAT = 10 ** 1500 - 1
NO_MANY = [None, True, False, -1, 4, 10 ** 30, "1", 1.0, (1,), [0], {}]
NO_TABLES = [
    None, True, False, 0, 1, "", "1 : 0 / 0", (), [], ((), ()), [[], []], {}, {"many": 1, "rows": ((), ())}, object(),
    Table, 1.5, b"",
]


class OtherTable(Table):
    """A class below Table."""


def choices(many):
    return list(itertools.product((0, 1), repeat=many))


def drawn_terms(draw, choice, count, power, share):
    found = {}
    for _ in range(draw.randrange(count + 1)):
        found[tuple(draw.randrange(power + 1) * sign for sign in choice)] = draw.randrange(1, share + 1)
    return tuple(sorted(found.items()))


def drawn_table(draw, many, count=4, power=3, share=4):
    return Table(many, [drawn_terms(draw, choice, count, power, share) for choice in choices(many)])


def drawn_tables(draw, many, number, **more):
    return [drawn_table(draw, many, **more) for _ in range(number)]


def told(table, numbers):
    """What the table tells, term by term."""
    at = choices(table.many).index(tuple(min(number, 1) for number in numbers))
    total = 0
    for powers, share in table.rows[at]:
        for number, power in zip(numbers, powers):
            share *= number ** power
        total += share
    return total


def rows_to(most, many):
    """All rows of so many numbers up to the most."""
    return list(itertools.product(range(most + 1), repeat=many))


def in_tuples(value):
    """Whether there are tuples all the way in, and integers that are neither True nor False."""
    if isinstance(value, tuple):
        return all(in_tuples(item) for item in value)
    return type(value) is int


def row_at(many, choice, terms):
    """The rows of a table with these terms at the choice, and none elsewhere."""
    return tuple(tuple(terms) if other == tuple(choice) else () for other in choices(many))
