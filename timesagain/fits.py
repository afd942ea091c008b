"""Fits: a table that has told values at told numbers."""

from timesagain.answers import are_answers
from timesagain.bounds import check_many
from timesagain.errors import BadTable, TooMany
from timesagain.polynomials import choice_of, choices
from timesagain.sums import shares_for
from timesagain.tables import Table
from timesagain.terms import terms_of

MOST_ROWS = 4
MOST_VALUE = 12
MOST_NUMBER = 6


def fits(many, rows):
    """A table that tells each of the values at its numbers; None if there is none."""
    check_many(many)
    if not are_answers(many, rows):
        raise BadTable("rows")
    rows_of = rows_by_choice(many, rows)
    refuse_rows(rows_of)
    polynomials = []
    for choice in choices(many):
        shares = shares_for(choice, rows_of[choice])
        if shares is None:
            return None
        polynomials.append(terms_of(shares))
    return Table(many, polynomials)


def rows_by_choice(many, rows):
    """For each choice its unlike rows, in tuples, in their order."""
    found = {choice: [] for choice in choices(many)}
    for numbers, value in rows:
        row = (tuple(numbers), value)
        if row not in found[choice_of(numbers)]:
            found[choice_of(numbers)].append(row)
    return found


def refuse_rows(rows_of):
    """Raises TooMany for too many rows of one choice, else for too great values, else for too great numbers."""
    if max([len(rows) for rows in rows_of.values()]) > MOST_ROWS:
        raise TooMany("rows", MOST_ROWS)
    all_rows = [row for rows in rows_of.values() for row in rows]
    if any([value > MOST_VALUE for _, value in all_rows]):
        raise TooMany("value", MOST_VALUE)
    if any([number > MOST_NUMBER for numbers, _ in all_rows for number in numbers]):
        raise TooMany("number", MOST_NUMBER)
