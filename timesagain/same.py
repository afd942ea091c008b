"""Whether two writings reckon the same of all numbers."""

from timesagain.meanings import table_of
from timesagain.reckoning import check_reckoning, check_writing
from timesagain.tables import parting


def tables_of(one, other, many):
    """The tables of both writings."""
    check_writing(one, "one")
    check_writing(other, "other")
    check_reckoning([(one, many), (other, many)])
    return table_of(one, many), table_of(other, many)


def same_numbers(one, other, many):
    """Same if both writings reckon the same of so many numbers, else Parted with the least at which they part."""
    first, second = tables_of(one, other, many)
    return parting(first, second)
