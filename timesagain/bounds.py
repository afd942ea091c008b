"""What holds for all lists of numbers that are handed to writings or asked of tables."""

from timesagain.checks import are_numbers, is_within
from timesagain.errors import BadNumber

MOST_NUMBERS = 3


def check_many(many):
    """Raises BadNumber for what does not tell how many numbers a writing reckons."""
    if not is_within(many, 0, MOST_NUMBERS):
        raise BadNumber("many")


def check_numbers(numbers):
    """Raises BadNumber for what is no list of at most so many numbers."""
    if not are_numbers(numbers) or len(numbers) > MOST_NUMBERS:
        raise BadNumber("numbers")
