import itertools
import random
import unittest

from helpers import Cases, listed, mixed

from timesagain.errors import BadNumber
from timesagain.polynomials import choice_of, choices, is_polynomial

GREAT = 10 ** 1500
NO_MANY = [None, True, False, -1, 4, 10 ** 30, "1", 1.0, (1,), [0], {}]


class Choices(Cases):
    def test_each(self):
        for many in range(4):
            self.answers(choices(many), tuple(itertools.product((0, 1), repeat=many)))
            for number, choice in enumerate(choices(many)):
                self.assertEqual(int("0" + "".join(map(str, choice)), 2), number)
        self.answers(choices(0), ((),))
        self.answers(choices(3)[4], (1, 0, 0))

    def test_refused(self):
        for many in NO_MANY:
            self.refuses(BadNumber, ["many"], choices, many)

    def test_by_name(self):
        self.answers([choices(many=1), choice_of(numbers=[3])], [((0,), (1,)), (1,)])


class ChoiceOf(Cases):
    def test_told_ones(self):
        for numbers, choice in (
            ((), ()), ([], ()), ([0], (0,)), ([1], (1,)), ((7,), (1,)), ([0, 0], (0, 0)), ([2, 0], (1, 0)),
            ((0, GREAT), (0, 1)),
            ([1, 2, 3], (1, 1, 1)), ([0, 5, 0], (0, 1, 0)), ((0, 0, 0), (0, 0, 0)),
        ):
            self.answers(choice_of(numbers), choice)

    def test_drawn(self):
        draw = random.Random(71)
        for _ in range(100):
            numbers = [draw.choice([0, 1, 2, 10 ** 30]) for _ in range(draw.randrange(4))]
            self.answers(choice_of(numbers), tuple(int(number > 0) for number in numbers))
            self.assertIn(choice_of(tuple(numbers)), choices(len(numbers)))

    def test_refused(self):
        for numbers in (
            None, True, 0, "", "01", b"01", {}, {0: 1}, {0}, range(2), [True], (0, False), [-1], (1, -1), [1.0],
            ["1"], [None],
            [[1]], ((),), [1, 2, 3, 4], (0,) * 4,
        ):
            self.refuses(BadNumber, ["numbers"], choice_of, numbers)


class Polynomials(Cases):
    def check(self, choice, value, expected):
        for told in (value, listed(value), mixed(value)):
            self.answers(is_polynomial(len(choice), choice, told), expected)
            self.answers(is_polynomial(len(choice), list(choice), told), expected)

    def test_right_ones(self):
        draw = random.Random(73)
        for many in range(4):
            for choice in choices(many):
                self.check(choice, (), True)
                ranges = [range(0, 61, 12) if sign else [0] for sign in choice]
                rows = sorted(itertools.product(*ranges))
                for _ in range(20):
                    picked = [row for row in rows if draw.random() < 0.3][:40]
                    self.check(choice, tuple((row, draw.choice([1, 2, GREAT])) for row in picked), True)

    def test_order(self):
        for choice, powers in (
            ((1,), [(0,), (1,)]), ((1, 1), [(0, 0), (0, 1), (1, 0), (1, 1)]), ((1, 0), [(0, 0), (2, 0), (60, 0)]),
            ((1, 1, 1), [(0, 0, 60), (0, 1, 0), (1, 0, 0)]), ((1, 1), [(9, 0), (10, 0)]),
        ):
            for count in range(1, len(powers) + 1):
                for row in itertools.product(powers, repeat=count):
                    terms = tuple((power, 1) for power in row)
                    self.check(choice, terms, all(one < other for one, other in zip(row, row[1:])))

    def test_powers(self):
        for power, expected in (
            (0, True), (1, True), (60, True), (61, False), (-1, False), (GREAT, False), (True, False),
            (False, False), (1.0, False),
            ("1", False), (None, False), ((1,), False),
        ):
            self.check((1,), (((power,), 1),), expected)
            self.check((0, 1), (((0, power), 1),), expected)
            self.check((1, 1, 0), (((power, 5, 0), 1),), expected)

    def test_powers_at_noughts(self):
        for choice in choices(3):
            for powers in itertools.product((0, 1), repeat=3):
                expected = all(sign or not power for sign, power in zip(choice, powers))
                self.check(choice, ((powers, 1),), expected)

    def test_shares(self):
        for share, expected in (
            (1, True), (2, True), (GREAT, True), (0, False), (-1, False), (True, False), (False, False),
            (1.0, False), ("1", False),
            (None, False), ((1,), False),
        ):
            self.check((), (((), share),), expected)
            self.check((1, 0), (((0, 0), 1), ((3, 0), share)), expected)

    def test_lengths(self):
        for many in range(4):
            for count in range(6):
                self.check((1,) * many, (((0,) * count, 1),), count == many)
        for term in (
            (), ((0,),), ((0,), 1, 1), ((0,), (1,)), (0, 1), "ab", None, 5, {}, (1, (0,)), ("0", 1), (None, 1),
        ):
            self.check((1,), (term,), False)
            self.check((1,), (((0,), 1), term), False)

    def test_of_no_numbers(self):
        self.check((), (((), 7),), True)
        self.check((), (((), 7), ((), 7)), False)
        self.check((), (((), 1), ((), 2)), False)

    def test_other_values(self):
        for value in (None, True, False, 0, 1, "", "ab", b"", {}, {((0,), 1): 1}, {1}, range(0), object(), 1.5):
            self.answers(is_polynomial(1, (1,), value), False)
            self.answers(is_polynomial(0, (), value), False)

    def test_refused(self):
        for many in NO_MANY:
            self.refuses(BadNumber, ["many"], is_polynomial, many, (1,), ())
            self.refuses(BadNumber, ["many"], is_polynomial, many, None, None)
        for choice in (
            None, True, 0, "1", "", {}, (), (1, 0), (2,), (-1,), (True,), (False,), ("1",), (1.0,), ((1,),), [None],
            range(1, 2),
        ):
            self.refuses(BadNumber, ["choice"], is_polynomial, 1, choice, ())
            self.refuses(BadNumber, ["choice"], is_polynomial, 1, choice, None)
        for many in range(4):
            for count in range(5):
                if count != many:
                    self.refuses(BadNumber, ["choice"], is_polynomial, many, (0,) * count, ())

    def test_by_name(self):
        self.answers(is_polynomial(value=[], choice=[1], many=1), True)


if __name__ == "__main__":
    unittest.main()
