import itertools
import random
import unittest

from drawn_tables import NO_MANY, choices, drawn_tables, in_tuples, told
from helpers import Cases, listed, mixed

from timesagain.asks import Untold, next_ask, told_by
from timesagain.errors import BadNumber, BadTable, Impossible, Misfit, TooMany
from timesagain.meanings import reckoned
from timesagain.numbers import chosen_writing, product_writing
from timesagain.papers import Denial, Paper
from timesagain.tables import Table, constant, place_table

MOST = {1: 10 ** 18, 2: 10 ** 4, 3: 200}
NO_ANSWERS = [
    None, True, 0, 1, "", "ab", b"", {}, {(0,): 0}, {1}, range(0), object(), [None], [1], ["ab"], [()], [[]],
    [((0,),)], [((0,), 0, 0)], [(0, 0)], [(None, 0)], [("0", 0)], [((0,), None)], [((0,), True)], [((0,), False)],
    [((0,), -1)], [((0,), "0")], [((0,), 0.0)], [((0,), (0,))], [((True,), 0)], [((False,), 0)], [((-1,), 0)],
    [((0.0,), 0)], [(("0",), 0)], [((None,), 0)], [(((0,),), 0)], [((), 0)], [((0, 0), 0)], [({0}, 0)], [({0: 0}, 0)],
    [(range(1), 0)], [{0: 0, 1: 1}], [((0,), 0), None], [((0,), 0), ((2,), -1)], (((0,), 0), ((2, 0), 0)),
]


def second_ask(choice, first):
    """What the document tells of the second ask, by its words."""
    base, power = first + 1, 0
    while 2 ** (power + 1) <= first:
        power += 1
    numbers = [base, base ** (power + 1), base ** ((power + 1) * (power + 1))]
    return tuple(numbers.pop(0) if sign else 0 for sign in choice)


def all_answers(table):
    """All that is to be asked of a table, with what it tells."""
    found = []
    for choice in choices(table.many):
        first = tuple(2 * sign for sign in choice)
        found.append((first, told(table, first)))
        if any(choice) and found[-1][1] > 1:
            second = second_ask(choice, found[-1][1])
            found.append((second, told(table, second)))
    return found


def answers_to(choice, first, second=None):
    """Answers that tell that all is nought ahead of a choice, and these values of it, as many as there are."""
    found = []
    for other in choices(len(choice)):
        if other == tuple(choice):
            break
        found.append((tuple(2 * sign for sign in other), 0))
    found.append((tuple(2 * sign for sign in choice), first))
    return found + ([(second_ask(choice, first), second)] if second is not None else [])


def polynomial_of(choice, first, second):
    """The terms whose shares are the digits of the second value, if they are worth the first at twos; else None."""
    base, step = first + 1, len(bin(first)) - 2
    terms, worth = {}, 0
    place = 0
    while second > 0 and worth <= first:
        left, powers = place, []
        for sign in choice:
            powers.append(left % step if sign else 0)
            left = left // step if sign else left
        if second % base:
            if left > 0:
                return None
            terms[tuple(powers)] = second % base
            worth += second % base * 2 ** sum(powers)
        second //= base
        place += 1
    return tuple(sorted(terms.items())) if worth == first else None


def drawn_within(draw, many, number):
    """Tables whose values at twos are within the bounds."""
    found = []
    while len(found) < number:
        table = drawn_tables(draw, many, 1, count=4, power=2, share=3)[0]
        twos = [tuple(2 * sign for sign in choice) for choice in choices(many)]
        if all(told(table, row) <= MOST.get(sum(row) // 2, 10 ** 9) for row in twos):
            found.append(table)
    return found


def rest_nought(many, answers):
    """The answers, and that all that is left to be asked is nought."""
    answers = list(answers)
    while next_ask(many, answers) is not None:
        answers.append((next_ask(many, answers), 0))
    return answers


class Asks(Cases):
    def check(self, table):
        """Asked out ask by ask, the table is told again."""
        answers = all_answers(table)
        self.assertLessEqual(len(answers), 2 ** (table.many + 1) - 1)
        for count in range(len(answers) + 1):
            ask = next_ask(table.many, answers[:count])
            self.answers(ask, answers[count][0] if count < len(answers) else None)
            for other in (listed(answers[:count]), mixed(answers[:count])):
                self.answers(next_ask(table.many, other), ask)
            if count < len(answers):
                self.refuses(Misfit, ["asks"], told_by, table.many, answers[:count])
        for value in (answers, listed(answers), mixed(answers), tuple(answers)):
            found = told_by(table.many, value)
            self.assertIs(type(found), Table)
            self.answers([found.many, found.rows], [table.many, table.rows])
            self.assertTrue(in_tuples(found.rows))

    def test_drawn(self):
        draw = random.Random(191)
        for many in range(4):
            for table in drawn_within(draw, many, 25):
                self.check(table)

    def test_great_powers_and_shares(self):
        draw = random.Random(193)
        for power, share in itertools.product((1, 10, 59), (1, 10 ** 17, 3)):
            if 2 ** power * share <= 10 ** 18:
                self.check(Table(1, [[((0,), draw.randrange(1, 10 ** 60))], [((power,), share)]]))
        self.check(Table(1, [(), [((power,), 1) for power in range(59)]]))
        self.check(Table(2, [()] * 3 + [[((0, 12), 1), ((5, 6), 1), ((11, 0), 1)]]))
        for powers in ((7, 0, 0), (0, 7, 0), (0, 0, 7), (2, 2, 3)):
            self.check(Table(3, [()] * 7 + [[((0, 0, 0), 72), (powers, 1)]]))

    def test_values_at_twos(self):
        for many in range(1, 4):
            for choice in choices(many)[1:]:
                zeros = (0,) * many
                for value in (0, 1, 2, 3, 4, 7, 8, 100):
                    ask = next_ask(many, answers_to(choice, value))
                    later = [tuple(2 * sign for sign in other) for other in choices(many) if other > choice] + [None]
                    self.answers(ask, second_ask(choice, value) if value > 1 else later[0])
                for value in (0, 1):
                    table = told_by(many, rest_nought(many, answers_to(choice, value)))
                    at = choices(many).index(choice)
                    self.answers(table.rows[at], ((zeros, 1),) if value else ())
        self.answers([next_ask(0, []), next_ask(1, []), next_ask(2, ()), next_ask(3, [])],
                     [(), (0,), (0, 0), (0, 0, 0)])

    def test_the_choice_of_noughts(self):
        for many in range(4):
            for value in (0, 1, 2, 10 ** 1500):
                table = told_by(many, rest_nought(many, [((0,) * many, value)]))
                self.assertEqual(table.rows[0], (((0,) * many, value),) if value else ())
                self.assertEqual(table.rows[1:], ((),) * (2 ** many - 1))
        self.answers(next_ask(0, [((), 10 ** 1500)]), None)

    def test_just_the_bounds(self):
        for many in range(1, 4):
            for choice in choices(many)[1:]:
                most = MOST[sum(choice)]
                answers = answers_to(choice, most)
                self.answers(next_ask(many, answers), second_ask(choice, most))
                # The constant tells the same everywhere; second values have no bound.
                table = told_by(many, rest_nought(many, answers_to(choice, most, most)))
                self.assertEqual(table.rows[choices(many).index(choice)], (((0,) * many, most),))
                for value in (most + 1, most * 10, 10 ** 1500):
                    for function in (next_ask, told_by):
                        self.refuses(TooMany, ["value", most], function, many, answers_to(choice, value))
                        # It comes behind numbers that are not asked ahead of it, ahead of those behind it.
                        more = answers_to(choice, value) + [((9,) * many, 0)]
                        self.refuses(TooMany, ["value", most], function, many, more)
                        if answers[:-1]:
                            wrong = [((9,) * many, 0)] + answers_to(choice, value)[1:]
                            self.refuses(Misfit, ["asks"], function, many, wrong)
                        turned = answers_to(choice, value)[:-1] + [((3,) * many, value)]
                        self.refuses(Misfit, ["asks"], function, many, turned)
                great = answers_to(choice, most, 10 ** 1500)
                self.assertNotEqual(next_ask(many, great), ())

    def test_numbers_that_are_not_asked(self):
        draw = random.Random(195)
        for many in range(4):
            for table in drawn_within(draw, many, 5):
                answers = all_answers(table)
                for at, (numbers, value) in enumerate(answers):
                    bent = [
                        numbers[:place] + (number + 1,) + numbers[place + 1:] for place, number in enumerate(numbers)
                    ]
                    for other in bent + [numbers[::-1]]:
                        if other != numbers:
                            wrong = answers[:at] + [(other, value)] + answers[at + 1:]
                            self.refuses(Misfit, ["asks"], next_ask, many, wrong)
                            self.refuses(Misfit, ["asks"], told_by, many, wrong)
                    if at + 1 < len(answers):
                        self.refuses(Misfit, ["asks"], told_by, many, answers[:at] + answers[at + 1:])
                        self.refuses(Misfit, ["asks"], next_ask, many, answers[:at] + answers[at + 1:])
                # An answer too many.
                for extra in (answers[-1], answers[0], ((2,) * many, 0)):
                    self.refuses(Misfit, ["asks"], next_ask, many, answers + [extra])
                    self.refuses(Misfit, ["asks"], told_by, many, answers + [extra])

    def test_what_no_polynomial_has(self):
        draw = random.Random(197)
        seen = []
        for many in range(1, 4):
            for table in drawn_within(draw, many, 12):
                for choice, terms in zip(choices(many)[1:], table.rows[1:]):
                    first = told(table, tuple(2 * sign for sign in choice))
                    if first > 1:
                        second = told(table, second_ask(choice, first))
                        self.assertEqual(polynomial_of(choice, first, second), terms)
                        seen += self.check_seconds(many, choice, first, second)
        self.assertGreater(min(seen.count(True), seen.count(False)), 50)

    def check_seconds(self, many, choice, first, second):
        """Values about one that a polynomial has; returns for each whether there was such a polynomial."""
        top = max(second_ask(choice, first))
        seen = []
        for other in (second, second + 1, second - 1, 0, second + top * first, second * top * top, 10 ** 1500, first):
            answers = rest_nought(many, answers_to(choice, first, other))
            terms = polynomial_of(choice, first, other)
            seen.append(terms is not None)
            if terms is None:
                self.impossible(choice, many, answers)
            else:
                rows = [terms if other == choice else () for other in choices(many)]
                self.assertEqual(told_by(many, answers), Table(many, rows))
        return seen

    def impossible(self, choice, many, answers):
        with self.assertRaises(Impossible) as caught:
            told_by(many, answers)
        self.assertIs(type(caught.exception.paper), Untold)
        self.answers(caught.exception.paper.choice, tuple(choice))
        self.assertIsNone(next_ask(many, answers))

    def test_every_second_value(self):
        """Of one number and of two: which second values some polynomial has, held against all polynomials."""
        for choice, first in (((1,), 2), ((1,), 3), ((1,), 5), ((1, 1), 2), ((1, 1), 3), ((1, 0), 4)):
            many = len(choice)
            ask = second_ask(choice, first)
            tables = {}
            # No other power has room at twos.
            powers = [row for row in itertools.product(*[range(3) if sign else [0] for sign in choice])
                      if 2 ** sum(row) <= first]
            for shares in itertools.product(range(first + 1), repeat=len(powers)):
                terms = tuple((row, share) for row, share in zip(powers, shares) if share)
                table = Table(many, [terms if other == choice else () for other in choices(many)])
                if told(table, tuple(2 * sign for sign in choice)) == first:
                    tables[told(table, ask)] = table
            greatest = max(tables) + 30
            for second in list(range(min(greatest, 400))) + sorted(tables):
                answers = rest_nought(many, answers_to(choice, first, second))
                if second in tables:
                    self.assertEqual(told_by(many, answers), tables[second])
                else:
                    self.impossible(choice, many, answers)

    def test_the_first_choice_is_told(self):
        many = 2
        for wrong in itertools.product((False, True), repeat=3):
            answers = [((0, 0), 5)]
            for choice, bad in zip(choices(many)[1:], wrong):
                answers.append((tuple(2 * sign for sign in choice), 3))
                answers.append((second_ask(choice, 3), 4 if bad else 3))
            # Of 4, in twos and so on: 1 0 in base 4, which is 2 at twos, not 3.
            if any(wrong):
                self.impossible(choices(many)[1:][wrong.index(True)], many, answers)
            else:
                self.assertEqual(told_by(many, answers).rows[1:], (((((0, 0), 3),)),) * 3)

    def test_great_second_values(self):
        first = 10 ** 18
        for second in (10 ** 1500 - 1, 10 ** 1499, (first + 1) ** 70, (first + 1) ** 60):
            self.impossible((1,), 1, answers_to((1,), first, second))
        for choice in choices(3)[1:]:
            for first in (2, MOST[sum(choice)]):
                self.impossible(choice, 3, rest_nought(3, answers_to(choice, first, 10 ** 1500 - 1)))

    def test_of_writings(self):
        for writing, table in (
            (product_writing(), place_table(2, 0).times(place_table(2, 1))), (chosen_writing(), None),
        ):
            many = 2 if table else 3
            answers = []
            while next_ask(many, answers) is not None:
                numbers = next_ask(many, answers)
                answers.append((numbers, reckoned(writing, numbers)))
            found = told_by(many, answers)
            if table:
                self.assertEqual(found, table)
            self.assertEqual([found.at(numbers) for numbers, _ in answers], [value for _, value in answers])

    def test_refused(self):
        for function in (next_ask, told_by):
            for many in NO_MANY:
                self.refuses(BadNumber, ["many"], function, many, [])
                self.refuses(BadNumber, ["many"], function, many, None)
            for value in NO_ANSWERS:
                if not isinstance(value, (list, tuple)) or value:
                    self.refuses(BadTable, ["answers"], function, 1, value)
            # What is no list of answers comes ahead of what is not asked.
            self.refuses(BadTable, ["answers"], function, 1, [((5,), 0), ((0,), None)])
            self.refuses(BadTable, ["answers"], function, 2, [((0,), 0)])
            self.refuses(BadTable, ["answers"], function, 0, [((0,), 0)])
        self.answers(next_ask(answers=[], many=1), (0,))
        self.assertEqual(told_by(answers=[((), 3)], many=0), constant(0, 3))


class Papers(Cases):
    def test_parts(self):
        for choice in ((), (0, 1), None, "x", True):
            for untold in (Untold(choice), Untold(choice=choice)):
                self.answers([untold.word, untold.parts, untold.choice], ["untold", (choice,), choice])
                self.assertTrue(isinstance(untold, Denial) and bool(untold) is False)
        self.answers(Untold([0, [1]]).choice, (0, (1,)))
        self.assertTrue(Untold([1]) == Untold((1,)) and Untold((1,)) != Untold((0,)))
        for other in (Denial("untold", (1,)), Paper("untold", (1,)), (1,), None):
            self.answers([Untold((1,)) == other, other == Untold((1,))], [False, False])


if __name__ == "__main__":
    unittest.main()
