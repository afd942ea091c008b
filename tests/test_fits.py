import itertools
import random
import unittest

from drawn_tables import NO_MANY, choices, drawn_tables, in_tuples, rows_to, told
from helpers import Cases, listed, mixed
from test_asks import NO_ANSWERS

from timesagain.errors import BadNumber, BadTable, TooMany
from timesagain.fits import fits
from timesagain.tables import Table


def can_fit(choice, rows):
    """Whether some polynomial of the choice has these values, found by taking terms away in all ways."""
    values = [value for _, value in rows]
    # 2 to the power 4 is above each value, and what is 1 in all rows makes no difference.
    powers = itertools.product(*[range(4) if sign else [0] for sign in choice])
    terms = [[worth(numbers, row) for numbers, _ in rows] for row in powers]
    return taken_away(values, [term for term in terms if all(map(int.__le__, term, values))])


def worth(numbers, powers):
    total = 1
    for number, power in zip(numbers, powers):
        total *= number ** power
    return total


def taken_away(values, terms):
    if not any(values):
        return True
    for at, term in enumerate(terms):
        left = [value - part for value, part in zip(values, term)]
        if min(left) >= 0 and taken_away(left, terms[at:]):
            return True
    return False


def drawn_rows(draw, table, most=4):
    """Rows of a table, at most so many of a choice, with values up to 12; fewer where it tells more."""
    rows = []
    for choice in choices(table.many):
        for _ in range(draw.randrange(most + 1)):
            numbers = tuple(draw.randrange(1, 7) * sign for sign in choice)
            if told(table, numbers) <= 12:
                rows.append((numbers, told(table, numbers)))
    draw.shuffle(rows)
    return rows


class Fits(Cases):
    def check(self, many, rows, fitting=None):
        """Just what the document tells: a table that fits, if the other way of trying finds that there is one."""
        found = fits(many, rows)
        if fitting is None:
            fitting = all(can_fit(choice, [row for row in rows if tuple(min(number, 1) for number in row[0]) == choice])
                          for choice in choices(many))
        if not fitting:
            self.assertIsNone(found)
        else:
            self.assertIs(type(found), Table)
            self.answers(found.many, many)
            self.assertTrue(in_tuples(found.rows))
            self.assertEqual(Table(many, found.rows), found)
            for numbers, value in rows:
                self.answers(told(found, numbers), value)
        for value in (listed(rows), mixed(rows), tuple(rows)):
            self.assertEqual(fits(many, value), found)
        return found

    def test_rows_of_tables(self):
        draw = random.Random(201)
        for many in range(4):
            for table in drawn_tables(draw, many, 40, count=3, power=2, share=3):
                self.check(many, drawn_rows(draw, table), True)

    def test_a_value_bent(self):
        draw = random.Random(203)
        seen = []
        for many in range(4):
            for table in drawn_tables(draw, many, 40, count=3, power=2, share=2):
                rows = drawn_rows(draw, table)
                for at, (numbers, value) in enumerate(rows[:6]):
                    for other in {value - 1, value + 1, draw.randrange(13)} & set(range(13)):
                        bent = rows[:at] + [(numbers, other)] + rows[at + 1:]
                        seen.append(self.check(many, bent) is None)
        self.assertGreater(min(seen.count(True), seen.count(False)), 100)

    def test_drawn_rows(self):
        draw = random.Random(205)
        seen = []
        for many, most in ((1, 6), (2, 3), (3, 2)):
            for _ in range(120):
                choice = draw.choice(choices(many)[1:])
                rows = {}
                for _ in range(draw.randrange(1, 5)):
                    rows[tuple(draw.randrange(1, most + 1) * sign for sign in choice)] = draw.randrange(1, 13)
                rows = list(rows.items())
                seen.append(self.check(many, rows) is None)
        self.assertGreater(min(seen.count(True), seen.count(False)), 50)

    def test_all_rows_of_one_number(self):
        """All pairs of values at 1 and 2, and at 2 and 3."""
        for low, high in ((1, 2), (2, 3), (1, 6)):
            for one, other in itertools.product(range(13), repeat=2):
                self.check(1, [((low,), one), ((high,), other)])

    def test_what_fits_none(self):
        for many, rows in (
            (1, [((1,), 0), ((2,), 1)]), (1, [((1,), 1), ((2,), 0)]), (1, [((2,), 2), ((1,), 3)]),
            (2, [((1, 1), 1), ((1, 2), 0)]), (2, [((1, 1), 0), ((2, 1), 1)]),
            (2, [((1, 1), 1), ((1, 2), 1), ((2, 1), 2), ((2, 2), 4)]),
            (1, [((3,), 4), ((3,), 5)]), (0, [((), 4), ((), 5)]), (1, [((0,), 4), ((0,), 0)]),
            (3, [((0, 0, 0), 1), ((1, 2, 3), 5), ((0, 0, 0), 2)]), (1, [((2,), 0), ((3,), 1)]),
            (3, [((1, 1, 1), 12), ((1, 1, 2), 11)]), (2, [((0, 1), 3), ((0, 2), 2), ((1, 1), 1)]),
            (1, [((1,), 1), ((2,), 3)]), (1, [((1,), 2), ((2,), 5), ((3,), 9)]),
        ):
            self.check(many, rows, False)
            self.check(many, rows[::-1], False)
            # Rows of other choices do not help.
            self.assertIsNone(fits(many, rows + [((0,) * many, rows[0][1])] if any(rows[0][0]) else rows))

    def test_what_fits(self):
        self.answers(self.check(1, [], True).rows, ((), ()))
        self.answers(self.check(0, [], True).rows, ((),))
        self.answers(self.check(1, [((0,), 7)], True).rows, ((((0,), 7),), ()))
        self.answers(self.check(1, [((2,), 8), ((3,), 12), ((1,), 4)], True).rows[1], (((1,), 4),))
        self.answers(self.check(1, [((2,), 8), ((1,), 1)], True).rows[1], (((3,), 1),))
        self.answers(self.check(2, [((1, 1), 3), ((1, 2), 4), ((2, 1), 5)], True).at((1, 1)), 3)
        self.answers(self.check(2, [((0, 0), 1), ((0, 2), 2), ((2, 0), 3), ((2, 2), 4)], True).at((0, 0)), 1)
        # Noughts are no rows of the other choices.
        for many in (1, 2, 3):
            rows = [(tuple(5 * sign for sign in choice), at) for at, choice in enumerate(choices(many))]
            self.check(many, rows, True)

    def test_equal_rows(self):
        row = ((2, 3), 6)
        self.assertEqual(fits(2, [row] * 9), fits(2, [row]))
        rows = [((1,), 1), ((2,), 2), ((3,), 3), ((4,), 4)]
        self.assertEqual(fits(1, rows + [[[3], 3], ([4], 4)] * 3), fits(1, rows))
        self.check(1, rows * 5, True)

    def test_any_order(self):
        draw = random.Random(207)
        for many in range(1, 4):
            for table in drawn_tables(draw, many, 10, count=3, power=2, share=2):
                rows = drawn_rows(draw, table)
                self.check(many, rows, True)
                self.check(many, rows[::-1], True)

    def test_just_the_rows(self):
        for many in range(1, 4):
            for choice in choices(many)[1:]:
                rows = [(tuple(number * sign for sign in choice), 1) for number in range(1, 6)]
                self.check(many, rows[:4], True)
                self.refuses(TooMany, ["rows", 4], fits, many, rows)
                # Equal ones are not counted, and each choice by itself.
                self.check(many, rows[:4] * 2 + [((0,) * many, 5)] * 5, True)
        for many in range(4):
            rows = [((0,) * many, value) for value in range(5)]
            self.refuses(TooMany, ["rows", 4], fits, many, rows)
            self.check(many, rows[:4], False)
        full = [(row, 1) for row in rows_to(2, 2)]
        self.check(2, full, True)
        self.assertEqual(len(full), 9)

    def test_just_the_values_and_numbers(self):
        self.check(1, [((0,), 12), ((6,), 12)], True)
        self.check(3, [((6, 6, 6), 12), ((6, 1, 6), 12), ((0, 6, 0), 6)], True)
        for value in (13, 14, 10 ** 1500):
            for numbers in ((0, 0), (0, 1), (6, 6)):
                self.refuses(TooMany, ["value", 12], fits, 2, [((1, 1), 12), (numbers, value)])
            self.refuses(TooMany, ["value", 12], fits, 0, [((), value)])
        for number in (7, 8, 10 ** 60):
            for numbers in ((0, number), (number, 1), (6, number)):
                self.refuses(TooMany, ["number", 6], fits, 2, [((1, 1), 12), (numbers, 12)])

    def test_several_at_once(self):
        five = [((number,), 1) for number in range(1, 6)]
        self.refuses(TooMany, ["rows", 4], fits, 1, [((0,), 13), ((7,), 1)] + five)
        self.refuses(TooMany, ["rows", 4], fits, 1, five[:4] + [((7,), 13)])
        self.refuses(TooMany, ["value", 12], fits, 1, [((7,), 1), ((0,), 13)])
        self.refuses(TooMany, ["value", 12], fits, 1, [((7,), 13), ((7,), 1)])
        # They come ahead of what fits none.
        self.refuses(TooMany, ["number", 6], fits, 1, [((1,), 0), ((2,), 1), ((7,), 1)])
        self.refuses(BadTable, ["rows"], fits, 1, five + [((7,), 13), ((1,), -1)])

    def test_hard_ones(self):
        """All sums are tried: three numbers, four rows, none of which is nought."""
        draw = random.Random(209)
        for _ in range(12):
            points = draw.sample([row for row in rows_to(2, 3) if min(row)], 4)
            for values in ((12, 12, 12, 12), (11, 12, 12, 12), (7, 12, 11, 12), (12, 11, 9, 12)):
                found = fits(3, list(zip(points, values)))
                if found is not None:
                    self.answers([found.at(point) for point in points], list(values))

    def test_refused(self):
        for many in NO_MANY:
            self.refuses(BadNumber, ["many"], fits, many, [])
            self.refuses(BadNumber, ["many"], fits, many, None)
        for value in NO_ANSWERS:
            self.refuses(BadTable, ["rows"], fits, 1, value)
        self.refuses(BadTable, ["rows"], fits, 2, [((0,), 0)])
        self.refuses(BadTable, ["rows"], fits, 0, [((0,), 0)])
        self.assertEqual(fits(rows=[((), 3)], many=0), Table(0, [[((), 3)]]))


if __name__ == "__main__":
    unittest.main()
