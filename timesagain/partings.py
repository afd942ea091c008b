"""Where polynomials part: the least numbers at which what one is more than the other is not 0."""

from timesagain.polynomials import choices
from timesagain.terms import shares_of, sum_of, with_number


def differences(one, other):
    """For each choice the shares of the one table less those of the other."""
    found = []
    for mine, theirs in zip(one.rows, other.rows):
        shares = sum_of(shares_of(mine), {powers: -share for powers, share in theirs})
        found.append({powers: share for powers, share in shares.items() if share != 0})
    return found


def least_apart(one, other):
    """The least numbers at which two tables of as many numbers tell unlike values; None if they are equal."""
    least = None
    for signs, shares in zip(choices(one.many), differences(one, other)):
        most = None if least is None else sum(least)
        found = least_numbers(shares, signs, most) if shares else None
        if found is not None and (least is None or (sum(found), found) < (sum(least), least)):
            least = found
    return least


def least_numbers(shares, signs, most):
    """The least numbers of a choice with these signs at which the shares, of which there are some, are not worth 0.

    None if all have a sum above the most; None is no such bound.
    """
    if not signs:
        return ()
    if signs[0] == 0:
        found = least_numbers(with_number(shares, 0), signs[1:], most)
        return None if found is None else (0,) + found
    least = None
    number = 1
    # Terms there are, so that some number leaves terms: the loop ends.
    while most is None or number + sum(signs[1:]) <= most:
        left = with_number(shares, number)
        found = least_numbers(left, signs[1:], None if most is None else most - number) if left else None
        if found is not None:
            least = (number,) + found
            # Of several with one sum the first has come already.
            most = sum(least) - 1
        number += 1
    return least
