"""Terms, added and multiplied: a polynomial as a dict that gives for powers their share."""


def shares_of(terms):
    """The shares of a polynomial, by their powers."""
    return {powers: share for powers, share in terms}


def terms_of(shares):
    """The polynomial with these shares."""
    return tuple(sorted(shares.items()))


def add_to(shares, others):
    """Adds the others to the shares."""
    for powers, share in others.items():
        shares[powers] = shares.get(powers, 0) + share


def sum_of(one, other):
    """The shares of both, added."""
    shares = {powers: share for powers, share in one.items()}
    add_to(shares, other)
    return shares


def product_of(one, other):
    """The shares of the one multiplied by those of the other."""
    shares = {}
    for powers, share in one.items():
        for more, factor in other.items():
            both = tuple([power + further for power, further in zip(powers, more)])
            shares[both] = shares.get(both, 0) + share * factor
    return shares


def ladder(number, most):
    """The number to the power 0, 1 and so on, to the most."""
    found = [1]
    for _ in range(most):
        found.append(found[-1] * number)
    return found


def worth(terms, ladders):
    """What the terms are worth at numbers, of each of which a ladder is told."""
    if not ladders:
        return sum([share for _, share in terms])
    inner = {}
    for powers, share in terms:
        inner.setdefault(powers[0], []).append((powers[1:], share))
    # From the greatest power down: to multiply two great numbers for each term would take long.
    total = 0
    ahead = power_at(terms, 0)
    for power in sorted(inner, reverse=True):
        total = total * ladders[0][ahead - power] + worth(inner[power], ladders[1:])
        ahead = power
    return total * ladders[0][ahead]


def worth_at(terms, numbers):
    """What the terms are worth at these numbers."""
    ladders = []
    for place, number in enumerate(numbers):
        ladders.append(ladder(number, power_at(terms, place)))
    return worth(terms, ladders)


def greatest_in(terms):
    """The greatest power in the terms, 0 without any."""
    return max([power for powers, _ in terms for power in powers], default=0)


def power_at(terms, place):
    """The greatest power of the number at this place, 0 without terms."""
    return max([powers[place] for powers, _ in terms], default=0)


def with_number(shares, number):
    """The shares with a number for the first letter; what comes to 0 is gone."""
    steps = ladder(number, max([powers[0] for powers in shares], default=0))
    totals = {}
    for powers, share in shares.items():
        left = powers[1:]
        totals[left] = totals.get(left, 0) + share * steps[powers[0]]
    return {left: total for left, total in totals.items() if total != 0}
