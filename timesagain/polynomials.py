"""Choices which numbers are nought, and the polynomials of such."""

from timesagain.bounds import check_many, check_numbers
from timesagain.checks import is_within
from timesagain.errors import BadNumber

GREATEST_POWER = 60


def choices(many):
    """All choices of so many numbers, by their numbers."""
    check_many(many)
    found = [()]
    for _ in range(many):
        found = [choice + (sign,) for choice in found for sign in (0, 1)]
    return tuple(found)


def choice_of(numbers):
    """The choice of these numbers."""
    check_numbers(numbers)
    return tuple([min(number, 1) for number in numbers])


def choice_number(choice):
    """The number of a choice: its signs read in twos."""
    number = 0
    for sign in choice:
        number = 2 * number + sign
    return number


def is_row_within(value, many, most):
    """Whether any value is a list or tuple of so many integers from 0 to most."""
    if not isinstance(value, (list, tuple)) or len(value) != many:
        return False
    return all([is_within(item, 0, most) for item in value])


def is_polynomial(many, choice, value):
    """Whether any value is a polynomial of a choice of so many numbers."""
    check_many(many)
    if not is_row_within(choice, many, 1):
        raise BadNumber("choice")
    if not isinstance(value, (list, tuple)) or not all([is_term(choice, term) for term in value]):
        return False
    powers = [tuple(term[0]) for term in value]
    return all([one < other for one, other in zip(powers, powers[1:])])


def is_term(choice, value):
    """Whether any value is a term of a polynomial of this choice."""
    if not isinstance(value, (list, tuple)) or len(value) != 2:
        return False
    powers, share = value
    if not is_row_within(powers, len(choice), GREATEST_POWER) or not is_within(share, 1, None):
        return False
    return all([sign == 1 or power == 0 for sign, power in zip(choice, powers)])
