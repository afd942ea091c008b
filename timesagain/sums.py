"""Sums of terms: which terms, each so often, come to told values at told numbers."""


def shares_for(choice, rows):
    """The shares of a polynomial of the choice that has the value of each row at its numbers; None without one."""
    values = tuple([value for _, value in rows])
    terms = terms_within(choice, [numbers for numbers, _ in rows], values)
    return shares_to(values, terms, last_terms(values, terms))


def terms_within(choice, points, values):
    """The powers of terms by what these are worth at the points, for all that are not above the values there.

    Of terms that are worth the same at all points one is enough.
    """
    ones = (1,) * len(points)
    if not are_within(ones, values):
        return {}
    found = {ones: (0,) * len(choice)}
    for place in range(len(choice)):
        factors = tuple([numbers[place] for numbers in points])
        # Where it is nought it stands in no term; where it is 1 it makes no difference.
        if max(factors, default=0) < 2:
            continue
        for worths, powers in list(found.items()):
            power = 1
            worths = multiplied(worths, factors)
            while are_within(worths, values):
                found.setdefault(worths, powers[:place] + (power,) + powers[place + 1:])
                power += 1
                worths = multiplied(worths, factors)
    return found


def are_within(worths, values):
    """Whether none is above its value."""
    return all([worth <= value for worth, value in zip(worths, values)])


def multiplied(worths, factors):
    """Each multiplied by its factor."""
    return tuple([worth * factor for worth, factor in zip(worths, factors)])


def added(sums, worths):
    """Each with its worth added."""
    return tuple([total + worth for total, worth in zip(sums, worths)])


def last_terms(values, terms):
    """For each sum of terms within the values what the last term in it is worth; None for the sum of none."""
    last = {(0,) * len(values): None}
    for worths in terms:
        for start in list(last):
            sums = added(start, worths)
            # What is known already was, or will be, gone on from by itself: no sum is tried twice.
            while sums not in last and are_within(sums, values):
                last[sums] = worths
                sums = added(sums, worths)
    return last


def shares_to(values, terms, last):
    """The shares of the terms that add up to the values; None if none do."""
    if values not in last:
        return None
    shares = {}
    left = values
    while last[left] is not None:
        worths = last[left]
        powers = terms[worths]
        shares[powers] = shares.get(powers, 0) + 1
        left = tuple([total - worth for total, worth in zip(left, worths)])
    return shares
