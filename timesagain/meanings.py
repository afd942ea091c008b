"""Meanings: what a writing reckons, of all numbers at once."""

from timesagain.bounds import check_numbers
from timesagain.codes import codes_of
from timesagain.layouts import laid_out
from timesagain.polynomials import choices
from timesagain.reader import read_shares
from timesagain.reckoning import check_reckoning, check_writing
from timesagain.tables import Table, greatest_power
from timesagain.terms import terms_of


def table_of(writing, many):
    """The table of the writing."""
    check_reckoning([(writing, many)])
    layout = laid_out(writing, "writing")
    codes = codes_of(layout)
    others = [parts[-1] if parts else None for parts in layout.below]
    return Table(many, [terms_of(read_shares(codes, others, choice)) for choice in choices(many)])


def reckoned(writing, numbers):
    """What the writing reckons of the numbers, as its table tells."""
    check_writing(writing, "writing")
    check_numbers(numbers)
    return table_of(writing, len(numbers)).at(numbers)


def hangs_on(writing, many):
    """The places of the numbers on which the writing hangs, ascending."""
    table = table_of(writing, many)
    return tuple([place for place in range(many) if hangs_on_place(table, place)])


def hangs_on_place(table, place):
    """Whether what the table tells hangs on the number at this place."""
    rows = {choice: terms for choice, terms in zip(choices(table.many), table.rows)}
    # Where it is nought no term has a power of it: so of a polynomial with one the other one is unlike, too.
    beside = [(choice, choice[:place] + (1,) + choice[place + 1:]) for choice in rows]
    return any([rows[choice] != rows[other] for choice, other in beside])


def noughts_only(writing, many):
    """Whether the writing is told by noughts alone: by nothing but which numbers are 0."""
    return greatest_power(table_of(writing, many)) == 0
