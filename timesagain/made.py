"""Writings made: for a table, and of other writings put together."""

from timesagain.bounds import MOST_NUMBERS, check_many
from timesagain.errors import BadWriting, TooMany
from timesagain.layouts import OF, TO, built, laid_out
from timesagain.reckoning import check_reckoning, check_writing
from timesagain.tables import check_table
from timesagain.writings import is_writing, signs_of

MOST_WEIGHT = 30
MOST_SIGNS = 200
NUMBERS = ("a", "b", "c")
DONE = "f"
START = "x"
# What a number is handed goes on from its spot, or leaves it unasked: then what is ahead is wiped out.
ASKED = "y"
UNASKED = "u"


def made_writing(table):
    """A closed writing that reckons this table."""
    check_table(table, "table")
    if weight(table) > MOST_WEIGHT:
        raise TooMany("weight", MOST_WEIGHT)
    return under(NUMBERS[:table.many] + (DONE, START), by_choice(table.rows, 0))


def weight(table):
    """For all terms of the table 1, the share and the powers, added up."""
    return sum([1 + share + sum(powers) for terms in table.rows for powers, share in terms])


def by_choice(rows, place):
    """What does one of the polynomials, as the numbers from this place on are nought or not."""
    if len(rows) == 1:
        return doing_all(rows[0])
    half = len(rows) // 2
    above = (OF, UNASKED, by_choice(rows[half:], place + 1))
    return handed(NUMBERS[place], [above, by_choice(rows[:half], place + 1)])


def doing_all(terms):
    """What does the terms, one behind the other."""
    done = START
    for powers, share in reversed(terms):
        done = doing_term(powers, share, done)
    return done


def doing_term(powers, share, done):
    """What does the term to what is done already."""
    if not any(powers):
        return so_often(DONE, share, done)
    doing = DONE if share == 1 else (OF, ASKED, so_often(DONE, share, ASKED))
    for name, power in zip(NUMBERS, powers):
        doing = so_often(name, power, doing)
    return (TO, doing, done)


def so_often(name, count, end):
    """The name handed the name handed .. the end, with the name so often."""
    for _ in range(count):
        end = (TO, name, end)
    return end


def handed(one, others):
    """The one handed the others, the first one first."""
    for other in others:
        one = (TO, one, other)
    return one


def under(names, body):
    """The body behind an "of" for each of the names, the first one first."""
    for name in reversed(names):
        body = (OF, name, body)
    return body


def put_together(writing, writings, many):
    """Of so many numbers the writing that hands to the one what the others reckon of these numbers."""
    check_writing(writing, "writing")
    check_writings(writings)
    check_many(many)
    check_reckoning([(writing, len(writings))] + [(other, many) for other in writings])
    names = NUMBERS[:many]
    parts = [handed(tuples_of(other), names) for other in writings]
    whole = under(names, handed(tuples_of(writing), parts))
    if signs_of(whole) > MOST_SIGNS:
        raise TooMany("signs", MOST_SIGNS)
    return whole


def check_writings(writings):
    """Raises BadWriting for what is no list of at most so many writings."""
    if not isinstance(writings, (list, tuple)) or len(writings) > MOST_NUMBERS:
        raise BadWriting("writings")
    if not all([is_writing(other) for other in writings]):
        raise BadWriting("writings")


def tuples_of(writing):
    """The writing in tuples."""
    return built(laid_out(writing, "writing").signs)
