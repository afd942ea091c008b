import random
import unittest

from drawn_tables import GREAT, NO_MANY, rows_to
from helpers import NO_WRITINGS, Cases, listed, mixed
from reckonings import TooGreat, counted, drawn_reckoning, dressed
from test_meanings import FREE, KINDS, to_the_power
from test_same import drawn_pairs

from timesagain.check_same import shows_same
from timesagain.errors import BadNumber, BadWriting, Misfit, TooMany
from timesagain.kinds import Kinded, Kindless
from timesagain.meanings import reckoned
from timesagain.numbers import chosen_writing, number_writing, product_writing, sum_writing
from timesagain.papers import Denial, Paper
from timesagain.same import same_numbers
from timesagain.steps import Plain
from timesagain.tables import Parted, Same, Table
from timesagain.writings import read_writing

ITSELF = read_writing("of n n")
ABOVE = read_writing("of n of f of x to to n of u to f x x")
NO_NUMBERS = [
    None, True, False, 0, 2, "", "2", "ab", b"2", {}, {2: 2}, {2}, range(2, 3), object(), (True,), (False,), [True],
    (-1,), (2.0,), ("2",), (None,), ((2,),), [[2]], (2, 2), (2, 2, 2), (), ((),), (2, True), (2, None), Parted((2,)),
]


class OtherSame(Same):
    """A class below Same: its values are not made by calling Same itself."""


class OtherParted(Parted):
    """A class below Parted."""


NO_PAPERS = [
    None, True, False, 0, 1, "", "same", "parted", (), [], {}, object(), Same, Parted, Paper("same"), Denial("same"),
    Denial("parted", (2,)), Paper("parted", (2,)), OtherSame(), OtherParted((2,)), Kinded((2,), ()), Kindless((2,)),
    Plain("x", 2), (2,), [2], Table(1, [(), ()]),
]


class Checks(Cases):
    def test_what_same_numbers_tells(self):
        for many, full, rows in drawn_pairs(181, 80, 6):
            paper = same_numbers(full[0], full[1], many)
            for one, other in (full, full[::-1], map(listed, full), map(mixed, full)):
                self.answers(shows_same(one, other, many, paper), True)
            self.answers(shows_same(full[0], full[1], many, Same()), rows[0] == rows[1])

    def test_parted_at_any_numbers(self):
        draw = random.Random(183)
        right = 0
        for many, full, rows in drawn_pairs(182, 60, 6):
            for numbers in rows_to(2, many) + [tuple(draw.choice([0, 1, 3, 9]) for _ in range(many))]:
                try:
                    values = [counted(writing, numbers) for writing in full]
                except TooGreat:
                    continue
                unlike = values[0] != values[1]
                right += unlike
                self.answers(shows_same(full[0], full[1], many, Parted(numbers)), unlike)
                self.answers(shows_same(full[1], full[0], many, Parted(list(numbers))), unlike)
        self.assertGreater(right, 50)

    def test_great_numbers(self):
        draw = random.Random(185)
        for many, full, rows in drawn_pairs(184, 40, 6):
            for _ in range(4):
                numbers = [draw.choice([0, 1, draw.randrange(GREAT), GREAT]) for _ in range(many)]
                unlike = reckoned(full[0], numbers) != reckoned(full[1], numbers)
                self.answers(shows_same(full[0], full[1], many, Parted(numbers)), unlike)
        power = to_the_power(60)
        self.answers([shows_same(power, ITSELF, 1, Parted([number])) for number in (0, 1, 2, GREAT)],
                     [False, False, True, True])

    def test_told_ones(self):
        for one, other in ((ABOVE, ITSELF), (ITSELF, ABOVE)):
            for number in range(6):
                self.answers(shows_same(one, other, 1, Parted((number,))), number > 1)
            self.answers(shows_same(one, other, 1, Same()), False)
        self.answers(shows_same(number_writing(2), number_writing(3), 0, Parted([])), True)
        self.answers(shows_same(number_writing(2), number_writing(2), 0, Parted([])), False)
        plus, product = sum_writing(), product_writing()
        for numbers in rows_to(4, 2):
            self.answers(shows_same(plus, product, 2, Parted(numbers)), sum(numbers) != numbers[0] * numbers[1])

    def test_no_numbers(self):
        for numbers in NO_NUMBERS:
            self.answers(shows_same(ABOVE, ITSELF, 1, Parted(numbers)), False)
        for numbers in NO_NUMBERS + [(2,), (0,)]:
            if numbers not in ((2, 2),):
                self.answers(shows_same(sum_writing(), read_writing("of n of m n"), 2, Parted(numbers)), False)
        for numbers in ((0,), (0, 0), [0], (GREAT,), None, "", True):
            self.answers(shows_same(number_writing(2), number_writing(3), 0, Parted(numbers)), False)
        self.answers(shows_same(ABOVE, ITSELF, 1, Parted([2])), True)

    def test_no_papers(self):
        for value in NO_PAPERS:
            self.answers(shows_same(ABOVE, ITSELF, 1, value), False)
            self.answers(shows_same(ITSELF, ITSELF, 1, value), False)

    def test_same_stays_same(self):
        draw = random.Random(187)
        for _ in range(20):
            many = draw.randrange(4)
            writing, _ = drawn_reckoning(draw, many, 8)
            full = dressed(draw, writing, 3)
            self.answers(shows_same(writing, full, many, Same()), True)
            for numbers in rows_to(1, many):
                self.answers(shows_same(writing, full, many, Parted(numbers)), False)

    def test_refused(self):
        plus, above = sum_writing(), to_the_power(61)
        for paper in (Same(), Parted((2,)), None, True):
            for value in NO_WRITINGS:
                self.refuses(BadWriting, ["one"], shows_same, value, plus, 2, paper)
                self.refuses(BadWriting, ["one"], shows_same, value, value, None, paper)
                self.refuses(BadWriting, ["other"], shows_same, "x", value, None, paper)
            for many in NO_MANY:
                self.refuses(BadNumber, ["many"], shows_same, "x", plus, many, paper)
                self.refuses(BadNumber, ["many"], shows_same, ITSELF, plus, many, paper)
            for text in FREE:
                for other in (plus, read_writing("of n to n n"), above):
                    self.refuses(Misfit, ["free"], shows_same, read_writing(text), other, 1, paper)
                    self.refuses(Misfit, ["free"], shows_same, other, read_writing(text), 2, paper)
            for text, fitting in KINDS:
                for many, fit in enumerate([number_writing(3), ITSELF, plus, chosen_writing()]):
                    if many not in fitting:
                        self.refuses(Misfit, ["kind"], shows_same, read_writing(text), fit, many, paper)
                        self.refuses(Misfit, ["kind"], shows_same, fit, read_writing(text), many, paper)
            self.refuses(TooMany, ["power", 60], shows_same, above, ITSELF, 1, paper)
            self.refuses(TooMany, ["power", 60], shows_same, ITSELF, above, 1, paper)
        self.answers(shows_same(value=Same(), many=1, other=ITSELF, one=ITSELF), True)


if __name__ == "__main__":
    unittest.main()
