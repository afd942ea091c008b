"""Answers: pairs of numbers and the value that something unseen has there."""

from timesagain.checks import are_numbers, is_within


def are_answers(many, value):
    """Whether any value is a list of pairs, each of a list of so many numbers and a number."""
    if not isinstance(value, (list, tuple)):
        return False
    return all([is_answer(many, pair) for pair in value])


def is_answer(many, value):
    """Whether any value is a pair of a list of so many numbers and a number."""
    if not isinstance(value, (list, tuple)) or len(value) != 2:
        return False
    numbers, worth = value
    return are_numbers(numbers) and len(numbers) == many and is_within(worth, 0, None)
