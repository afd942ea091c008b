"""Asks: which numbers tell a writing that nobody sees."""

from timesagain.answers import are_answers
from timesagain.bounds import check_many
from timesagain.errors import BadTable, Impossible, Misfit, TooMany
from timesagain.papers import Denial
from timesagain.polynomials import choices
from timesagain.tables import Table
from timesagain.terms import ladder

# The greatest first value of a choice, by how many numbers are above nought; of noughts there is no bound.
FIRST_VALUES = (None, 1000000000000000000, 10000, 200)


class Untold(Denial):
    """A choice of which no polynomial has the two values that were answered."""

    def __init__(self, choice):
        Denial.__init__(self, "untold", choice)
        self.choice = self.parts[0]


def next_ask(many, answers):
    """The numbers that are to be asked behind these answers; None if nothing is."""
    return next_in(many, values_told(many, answers))[1]


def told_by(many, answers):
    """The table that has all these values."""
    told = values_told(many, answers)
    if next_in(many, told)[1] is not None:
        raise Misfit("asks")
    rows = []
    for choice, values in zip(choices(many), told):
        terms = terms_told(choice, values)
        if terms is None:
            raise Impossible(Untold(choice))
        rows.append(terms)
    return Table(many, rows)


def values_told(many, answers):
    """For each choice the values that were answered of it."""
    check_many(many)
    if not are_answers(many, answers):
        raise BadTable("answers")
    told = [[] for _ in choices(many)]
    for numbers, value in answers:
        at, asked = next_in(many, told)
        if asked != tuple(numbers):
            raise Misfit("asks")
        refuse_value(choices(many)[at], told[at], value)
        told[at].append(value)
    return told


def next_in(many, told):
    """The number of the choice of which is to be asked next, and the numbers; None and None if nothing is."""
    for at, choice in enumerate(choices(many)):
        asked = asked_of(choice, told[at])
        if asked is not None:
            return at, asked
    return None, None


def asked_of(choice, values):
    """The numbers that are to be asked of this choice behind these values of it; None if nothing is."""
    if not values:
        return tuple([2 * sign for sign in choice])
    if 1 not in choice or len(values) == 2 or values[0] < 2:
        return None
    asked = []
    number, step = base_of(values[0])
    for sign in choice:
        asked.append(number * sign)
        if sign == 1:
            number = ladder(number, step)[step]
    return tuple(asked)


def base_of(first):
    """What the second ask of a choice rests on: one more than the first value, and than its greatest power of two."""
    return first + 1, first.bit_length()


def refuse_value(choice, values, value):
    """Raises TooMany for a value of the choice, behind the other ones, if it is a first one and too great."""
    most = FIRST_VALUES[sum(choice)]
    if most is not None and not values and value > most:
        raise TooMany("value", most)


def terms_told(choice, values):
    """The polynomial of the choice that has these values; None if none has."""
    first = values[0]
    if len(values) == 1:
        return [((0,) * len(choice), first)] if first > 0 else []
    base, step = base_of(first)
    terms = []
    worth = 0
    for place, share in digits_of(values[1], base):
        powers = powers_at(choice, place, step)
        if powers is None:
            return None
        terms.append((powers, share))
        worth += share << sum(powers)
    return sorted(terms) if worth == first else None


def digits_of(value, base):
    """The places and the digits, all but the noughts, of the value written in this base."""
    found = []
    place = 0
    while value > 0:
        value, digit = divmod(value, base)
        if digit > 0:
            found.append((place, digit))
        place += 1
    return found


def powers_at(choice, place, step):
    """The powers of the term whose share is the digit at this place; None for one that is too great."""
    powers = []
    for sign in choice:
        power = 0
        if sign == 1:
            place, power = divmod(place, step)
        powers.append(power)
    return tuple(powers) if place == 0 else None
