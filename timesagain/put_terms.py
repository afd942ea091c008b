"""Polynomials put for the letters of another one, and multiplied out.

The inner ones are given as terms, one for each letter, all of one choice of as many numbers.
"""

from timesagain.polynomials import choice_number
from timesagain.terms import add_to, power_at, product_of, shares_of


def used_terms(table, inner):
    """The terms of the table that count where the inner polynomials are put in."""
    # A polynomial without a term is nought, any other one above, whatever the numbers of its choice.
    return table.rows[choice_number([1 if terms else 0 for terms in inner])]


def products_put(used, inner):
    """How many products of terms are to be made."""
    total = 0
    for powers, _ in used:
        count = 1
        for terms, power in zip(inner, powers):
            for _ in range(power):
                count *= len(terms)
        total += count
    return total


def greatest_put(used, inner, many):
    """The greatest power that comes out."""
    greatest = 0
    for place in range(many):
        tops = [power_at(terms, place) for terms in inner]
        for powers, _ in used:
            # No share is below 0, so that no term goes away again.
            greatest = max(greatest, sum([top * power for top, power in zip(tops, powers)]))
    return greatest


def put_shares(used, inner, many):
    """The shares, by their powers, of what comes out."""
    ladders = []
    for place, terms in enumerate(inner):
        ladders.append(shares_ladder(shares_of(terms), power_at(used, place), many))
    total = {}
    for powers, share in used:
        shares = {(0,) * many: share}
        for steps, power in zip(ladders, powers):
            shares = product_of(shares, steps[power])
        add_to(total, shares)
    return total


def shares_ladder(shares, most, many):
    """The shares to the power 0, 1 and so on, to the most."""
    found = [{(0,) * many: 1}]
    for _ in range(most):
        found.append(product_of(found[-1], shares))
    return found
