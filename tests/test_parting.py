import itertools
import random
import unittest

from drawn_tables import GREAT, NO_TABLES, OtherTable, choices, drawn_table, row_at, rows_to, told
from helpers import Cases

from timesagain.errors import BadTable, Misfit
from timesagain.papers import Denial, Paper
from timesagain.tables import Parted, Same, Table, constant, parting, place_table


def least_by_trying(one, other, most):
    """The least numbers that part two tables, of those up to the most."""
    for numbers in sorted(rows_to(most, one.many), key=lambda row: (sum(row), row)):
        if told(one, numbers) != told(other, numbers):
            return numbers
    return None


def apart(many, choice, shares):
    """Two tables whose polynomials at this choice have this difference."""
    more = sorted((powers, share) for powers, share in shares.items() if share > 0)
    less = sorted((powers, -share) for powers, share in shares.items() if share < 0)
    return Table(many, row_at(many, choice, more)), Table(many, row_at(many, choice, less))


def multiplied(one, other):
    shares = {}
    for powers, share in one.items():
        for more, factor in other.items():
            both = tuple(map(sum, zip(powers, more)))
            shares[both] = shares.get(both, 0) + share * factor
    return {powers: share for powers, share in shares.items() if share}


def nought_to(most, place, many):
    """(x - 1) (x - 2) .., which is nought from 1 to the most."""
    product = {(0,) * many: 1}
    letter = tuple(int(at == place) for at in range(many))
    for number in range(1, most + 1):
        product = multiplied(product, {letter: 1, (0,) * many: -number})
    return product


class Partings(Cases):
    def parts_at(self, one, other, numbers):
        for first, second in ((one, other), (other, one)):
            paper = parting(first, second)
            self.assertIs(type(paper), Parted)
            self.answers(paper.numbers, numbers)
            self.assertFalse(paper)

    def test_equal_ones(self):
        draw = random.Random(141)
        for many in range(4):
            for _ in range(10):
                table = drawn_table(draw, many)
                paper = parting(table, Table(many, table.rows))
                self.assertIs(type(paper), Same)
                self.answers([bool(paper), paper.word, paper.parts], [True, "same", ()])

    def test_drawn(self):
        draw = random.Random(143)
        for many in range(4):
            for _ in range(60):
                one, other = [drawn_table(draw, many, count=3, power=2, share=3) for _ in range(2)]
                least = least_by_trying(one, other, 4)
                if least is None:
                    self.assertEqual(parting(one, other), Same())
                else:
                    self.parts_at(one, other, least)

    def test_one_bent(self):
        """One share more, or one power more, at one choice."""
        draw = random.Random(145)
        for many in range(4):
            for choice in choices(many):
                for _ in range(6):
                    table = drawn_table(draw, many)
                    powers = tuple(draw.randrange(4) * sign for sign in choice)
                    share = Table(many, row_at(many, choice, [(powers, draw.choice([1, 5, GREAT]))]))
                    # A single term is above nought as soon as all its numbers are.
                    self.parts_at(table, table.plus(share), choice)
                    self.parts_at(table.plus(share), table.plus(share).plus(share), choice)
                    if any(powers):
                        more = tuple(power + sign for power, sign in zip(powers, choice))
                        bent = Table(many, row_at(many, choice, [(more, 1)]))
                        plain = Table(many, row_at(many, choice, [(powers, 1)]))
                        least = least_by_trying(plain, bent, 3)
                        self.parts_at(table.plus(plain), table.plus(bent), least)

    def test_noughts_alone(self):
        for many in range(1, 4):
            for place in range(many):
                letter = place_table(many, place)
                for choice in choices(many):
                    other = letter.plus(Table(many, row_at(many, choice, [((0,) * many, 1)])))
                    self.parts_at(letter, other, choice)
        self.parts_at(constant(0, 3), constant(0, 4), ())
        self.parts_at(constant(3, 3), constant(3, 4), (0, 0, 0))

    def test_nought_for_long(self):
        for many in range(1, 4):
            for place in range(many):
                for most in (1, 2, 5, 20):
                    shares = nought_to(most, place, many)
                    least = tuple(most + 1 if at == place else 1 for at in range(many))
                    self.parts_at(*apart(many, (1,) * many, shares), least)
                    choice = tuple(int(at == place) for at in range(many))
                    least = tuple((most + 1) * sign for sign in choice)
                    self.parts_at(*apart(many, choice, shares), least)
        both = multiplied(nought_to(4, 0, 2), nought_to(7, 1, 2))
        self.parts_at(*apart(2, (1, 1), both), (5, 8))
        three = multiplied(multiplied(nought_to(3, 0, 3), nought_to(1, 1, 3)), nought_to(2, 2, 3))
        self.parts_at(*apart(3, (1, 1, 1), three), (4, 2, 3))
        self.parts_at(*apart(1, (1,), nought_to(40, 0, 1)), (41,))

    def test_least_sum_and_then_the_first(self):
        first, second = place_table(2, 0), place_table(2, 1)
        # Apart wherever the numbers are unlike.
        self.parts_at(first, second, (0, 1))
        square = {(2, 0): 1, (0, 1): -1}
        self.parts_at(*apart(2, (1, 1), square), (1, 2))
        # x + y is not 3, nor 2; then (1, 3) comes first.
        lines = multiplied({(1, 0): 1, (0, 1): 1, (0, 0): -2}, {(1, 0): 1, (0, 1): 1, (0, 0): -3})
        self.parts_at(*apart(2, (1, 1), lines), (1, 3))
        # Nought where x is 1 or y is 1 or 2; and of the sums where x is 2: (3, 3) has 6, as (2, 4) has.
        self.parts_at(*apart(2, (1, 1), multiplied(nought_to(1, 0, 2), nought_to(2, 1, 2))), (2, 3))
        # Apart at (1, 3), and, with a sum that is just one less, at (2, 1).
        self.parts_at(*apart(2, (1, 1), {(1, 0): 1, (0, 2): 1, (0, 1): -3, (0, 0): 1}), (2, 1))
        gap = multiplied(nought_to(1, 0, 2), {(0, 1): 1, (1, 0): 1, (0, 0): -3})
        self.parts_at(*apart(2, (1, 1), gap), (2, 2))
        # Two choices part: the lesser sum counts, whichever choice it is of; of like sums the first numbers.
        late = apart(2, (0, 1), nought_to(4, 1, 2))
        soon = apart(2, (1, 1), nought_to(1, 0, 2))
        self.parts_at(late[0].plus(soon[0]), late[1].plus(soon[1]), (2, 1))
        late = apart(2, (0, 1), nought_to(2, 1, 2))
        self.parts_at(late[0].plus(soon[0]), late[1].plus(soon[1]), (0, 3))
        late = apart(2, (1, 0), nought_to(2, 0, 2))
        self.parts_at(late[0].plus(soon[0]), late[1].plus(soon[1]), (2, 1))
        self.parts_at(*late, (3, 0))

    def test_great_ones(self):
        for one, other in itertools.permutations((0, 1, GREAT, GREAT + 1), 2):
            self.parts_at(constant(2, one), constant(2, other), (0, 0))
        high = [Table(1, [(), [((power,), 1)]]) for power in (59, 60)]
        self.parts_at(high[0], high[1], (2,))

    def test_refused(self):
        for many in range(4):
            table = constant(many, 1)
            for value in NO_TABLES + [OtherTable(many, table.rows)]:
                self.refuses(BadTable, ["one"], parting, value, table)
                self.refuses(BadTable, ["one"], parting, value, value)
                self.refuses(BadTable, ["other"], parting, table, value)
            for other in range(4):
                if other != many:
                    self.refuses(Misfit, ["many"], parting, table, constant(other, 1))
        self.assertEqual(parting(other=constant(1, 1), one=constant(1, 0)), Parted((0,)))


class Papers(Cases):
    def test_parts(self):
        same = Same()
        self.answers([same.word, same.parts, bool(same)], ["same", (), True])
        self.assertTrue(isinstance(same, Paper) and not isinstance(same, Denial))
        for numbers in ((), (1, 2), None, "x", 5, {"a": 1}, (True,)):
            for parted in (Parted(numbers), Parted(numbers=numbers)):
                self.answers([parted.word, parted.parts, parted.numbers], ["parted", (numbers,), numbers])
                self.assertTrue(isinstance(parted, Denial) and bool(parted) is False)
        passed = [1, [2]]
        parted = Parted(passed)
        passed.append(3)
        self.answers([parted.numbers, parted.parts], [(1, (2,)), ((1, (2,)),)])

    def test_equality(self):
        self.assertTrue(Same() == Same() and Parted([1]) == Parted((1,)) and Parted([1]) == Parted([True]))
        for one, other in (
            (Same(), Parted(())), (Same(), Paper("same")), (Parted([1]), Parted([2])), (Parted([]), Parted([0])),
            (Parted([1]), Denial("parted", [1])), (Parted([1]), Paper("parted", [1])), (Same(), True), (Parted([]), ()),
        ):
            self.answers([one == other, other == one, one != other], [False, False, True])


if __name__ == "__main__":
    unittest.main()
