"""Numbers: the writings that do what they are handed so many times again."""

from timesagain.bounds import check_numbers
from timesagain.checks import is_within
from timesagain.codes import codes_of
from timesagain.errors import BadNumber, BadWriting, Misfit
from timesagain.kinds import reckons
from timesagain.layouts import OF, TO, laid_out
from timesagain.steps import MOST_STEPS, plain
from timesagain.writings import is_writing, read_writing

GREATEST_WRITTEN = 40
GREATEST_HANDED = 12


def number_writing(number):
    """The number writing of this number."""
    if not is_within(number, 0, GREATEST_WRITTEN):
        raise BadNumber("number")
    return read_writing("of f of x " + "to f " * number + "x")


def number_in(writing):
    """The number that the writing tells; None for one that tells none."""
    codes = codes_of(laid_out(writing, "writing"))
    if codes == [OF, 0]:
        return 1
    # What is plain, closed and of the number kind is this or a number writing: no other one need be known.
    number = (len(codes) - 3) // 2
    return number if codes == [OF, OF] + [TO, 1] * number + [0] else None


def do(writing, numbers):
    """The number that the writing reckons at these numbers, found by steps."""
    if not is_writing(writing):
        raise BadWriting("writing")
    check_numbers(numbers)
    if not all([number <= GREATEST_HANDED for number in numbers]):
        raise BadNumber("numbers")
    if not reckons(writing, len(numbers)):
        raise Misfit("kind")
    handed = writing
    for number in numbers:
        handed = (TO, handed, number_writing(number))
    return number_in(plain(handed, MOST_STEPS).writing)


def sum_writing():
    """A writing that reckons the sum of two numbers."""
    return read_writing("of n of m of f of x to to n f to to m f x")


def product_writing():
    """A writing that reckons the product of two numbers."""
    return read_writing("of n of m of f to n to m f")


def chosen_writing():
    """A writing that reckons of n, a and b the number a if n is 0, else b."""
    return read_writing("of n of a of b of f of x to to n of u to to b f x to to a f x")
