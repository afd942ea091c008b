"""The check of the papers on whether two writings reckon the same."""

from timesagain.checks import are_numbers
from timesagain.same import tables_of
from timesagain.tables import Parted, Same


def shows_same(one, other, many, value):
    """Whether the value is a right paper on whether both writings reckon the same of so many numbers."""
    first, second = tables_of(one, other, many)
    if type(value) is Same:
        return first == second
    return type(value) is Parted and parts_at(first, second, value.numbers)


def parts_at(first, second, numbers):
    """Whether any value is numbers at which the two tables part."""
    if not are_numbers(numbers) or len(numbers) != first.many:
        return False
    return first.at(numbers) != second.at(numbers)
