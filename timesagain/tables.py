"""Tables: what is reckoned of any numbers, with a polynomial for each choice which of them are nought."""

from timesagain.bounds import check_many
from timesagain.checks import are_numbers, is_within
from timesagain.errors import BadNumber, BadTable, Misfit, TooMany
from timesagain.papers import Denial, Paper, fixed
from timesagain.partings import least_apart
from timesagain.polynomials import GREATEST_POWER, choice_number, choice_of, choices, is_polynomial
from timesagain.put_terms import greatest_put, products_put, put_shares, used_terms
from timesagain.table_texts import read_rows, table_items
from timesagain.terms import greatest_in, product_of, shares_of, sum_of, terms_of, worth_at

MOST_PRODUCTS = 20000


class Table:
    """What is reckoned of so many numbers: a polynomial for each choice, in the order of their numbers."""

    def __init__(self, many, rows):
        check_many(many)
        if not are_rows(many, rows):
            raise BadTable("rows")
        self.many = many
        self.rows = fixed(rows)

    def __eq__(self, other):
        return type(self) is type(other) and self.many == other.many and self.rows == other.rows

    def __str__(self):
        return " ".join(table_items(self.many, self.rows))

    @staticmethod
    def read(text):
        """The table whose text this is."""
        many, rows = read_rows(text)
        return Table(many, rows)

    def at(self, numbers):
        """What the table tells at these numbers."""
        if not are_numbers(numbers) or len(numbers) != self.many:
            raise BadNumber("numbers")
        return worth_at(self.rows[choice_number(choice_of(numbers))], numbers)

    def plus(self, other):
        """The sum of both tables."""
        rows = [sum_of(one, two) for one, two in paired_shares(self, other)]
        return Table(self.many, [terms_of(shares) for shares in rows])

    def times(self, other):
        """The product of both tables."""
        pairs = paired_shares(self, other)
        refuse_products([len(one) * len(two) for one, two in pairs])
        rows = [terms_of(product_of(one, two)) for one, two in pairs]
        refuse_powers([greatest_in(terms) for terms in rows])
        return Table(self.many, rows)

    def put_in(self, tables, many):
        """The table of so many numbers that takes in these tables, one for each number of this one."""
        check_tables(tables)
        check_many(many)
        if len(tables) != self.many:
            raise Misfit("tables")
        if any([table.many != many for table in tables]):
            raise Misfit("many")
        asked = []
        for at in range(len(choices(many))):
            inner = [table.rows[at] for table in tables]
            asked.append((used_terms(self, inner), inner))
        refuse_products([products_put(used, inner) for used, inner in asked])
        refuse_powers([greatest_put(used, inner, many) for used, inner in asked])
        return Table(many, [terms_of(put_shares(used, inner, many)) for used, inner in asked])


class Same(Paper):
    """Two tables, or two writings, tell the same at all numbers."""

    def __init__(self):
        Paper.__init__(self, "same")


class Parted(Denial):
    """Numbers at which two tables, or two writings, tell unlike values."""

    def __init__(self, numbers):
        Denial.__init__(self, "parted", numbers)
        self.numbers = self.parts[0]


def are_rows(many, value):
    """Whether any value is a list of a polynomial for each choice of so many numbers."""
    if not isinstance(value, (list, tuple)) or len(value) != len(choices(many)):
        return False
    return all([is_polynomial(many, choice, row) for choice, row in zip(choices(many), value)])


def check_table(value, part):
    """Raises BadTable for what was passed for this part and is no table."""
    if type(value) is not Table:
        raise BadTable(part)


def check_tables(tables):
    """Raises BadTable for what is no list of tables."""
    if not isinstance(tables, (list, tuple)) or not all([type(table) is Table for table in tables]):
        raise BadTable("tables")


def paired_shares(table, other):
    """For each choice the shares of the table and those of the other, which must be of as many numbers."""
    check_table(other, "other")
    if table.many != other.many:
        raise Misfit("many")
    return [(shares_of(one), shares_of(two)) for one, two in zip(table.rows, other.rows)]


def refuse_products(counts):
    """Raises TooMany if for a choice there are too many products."""
    if max(counts) > MOST_PRODUCTS:
        raise TooMany("products", MOST_PRODUCTS)


def refuse_powers(powers):
    """Raises TooMany if one of the powers is too great."""
    if max(powers) > GREATEST_POWER:
        raise TooMany("power", GREATEST_POWER)


def constant(many, number):
    """The table that tells this number everywhere."""
    check_many(many)
    if not is_within(number, 0, None):
        raise BadNumber("number")
    terms = (((0,) * many, number),) if number > 0 else ()
    return Table(many, [terms for _ in choices(many)])


def place_table(many, place):
    """The table that tells the number at this place."""
    check_many(many)
    if not is_within(place, 0, many - 1):
        raise BadNumber("place")
    powers = tuple([1 if at == place else 0 for at in range(many)])
    return Table(many, [((powers, 1),) if choice[place] == 1 else () for choice in choices(many)])


def chosen(place, one, other):
    """The table with the polynomials of the one where the number at this place is nought, else those of the other."""
    if not is_within(place, 0, None):
        raise BadNumber("place")
    check_table(one, "one")
    check_table(other, "other")
    if one.many != other.many:
        raise Misfit("many")
    if place >= one.many:
        raise Misfit("place")
    rows = []
    for choice, nought, above in zip(choices(one.many), one.rows, other.rows):
        rows.append(nought if choice[place] == 0 else above)
    return Table(one.many, rows)


def greatest_power(table):
    """The greatest power in all terms, 0 without any."""
    check_table(table, "table")
    return max([greatest_in(terms) for terms in table.rows])


def parting(one, other):
    """Same for equal tables, else Parted with the least numbers that part them."""
    check_table(one, "one")
    check_table(other, "other")
    if one.many != other.many:
        raise Misfit("many")
    least = least_apart(one, other)
    return Same() if least is None else Parted(least)
