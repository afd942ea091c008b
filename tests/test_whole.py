"""What holds over the whole program: what one function returns is taken by the others, and they tell the same."""

import copy
import random
import unittest

import reference
from drawn_tables import GREAT, choices, drawn_table, drawn_tables, rows_to, told
from helpers import Cases, listed, mixed
from reckonings import drawn_reckoning, dressed

from timesagain import errors
from timesagain.asks import Untold, next_ask, told_by
from timesagain.check_kinds import shows_kind
from timesagain.check_same import shows_same
from timesagain.fits import fits
from timesagain.kinds import (
    Kinded, Kindless, is_instance, joined, kind_of, kind_text, read_kind, reckoning_kind, reckons,
)
from timesagain.made import made_writing, put_together
from timesagain.meanings import hangs_on, noughts_only, reckoned, table_of
from timesagain.numbers import chosen_writing, do, number_in, number_writing, product_writing, sum_writing
from timesagain.papers import Denial, Paper, fixed
from timesagain.places import part_at, places_of, with_part
from timesagain.polynomials import choice_of, is_polynomial
from timesagain.same import same_numbers
from timesagain.steps import Plain, is_plain, plain, step_at, steps_of
from timesagain.tables import Parted, Same, Table, chosen, constant, greatest_power, parting, place_table
from timesagain.writings import (
    alike, free_names, is_writing, layers_of, put, read_writing, signs_of, writing_text,
)

PAPERS = {
    Kinded: ["kind", "free"], Kindless: ["place"], Plain: ["writing", "steps"], Same: [], Parted: ["numbers"],
    Untold: ["choice"],
}
DENIALS = [Kindless, Parted, Untold]


def small_table(draw, many):
    """A table whose writing is made, and reckons in few steps."""
    while True:
        table = drawn_table(draw, many, count=1, power=2, share=2)
        if sum(1 + share + sum(powers) for terms in table.rows for powers, share in terms) <= 30:
            return table


def table_with(choice, terms):
    """A table that is nought but at one choice."""
    return Table(len(choice), [terms if other == choice else () for other in choices(len(choice))])


class Writings(Cases):
    def passes_through(self, writing, many):
        """The writing is taken by all functions that take writings, and what they tell fits together."""
        self.assertTrue(is_writing(writing))
        self.assertEqual(read_writing(writing_text(writing)), writing)
        self.answers([signs_of(writing), layers_of(writing)], [reference.signs(writing), reference.layers(writing)])
        self.assertEqual(free_names(writing), ())
        self.assertTrue(alike(writing, put(writing, "x", writing)))
        self.assertEqual(part_at(writing, ()), writing)
        last = places_of(writing)[-1]
        self.assertEqual(with_part(writing, last, part_at(writing, last)), writing)
        kinded = kind_of(writing)
        self.assertTrue(shows_kind(writing, kinded) and is_instance(reckoning_kind(many), kinded.kind))
        self.assertEqual(read_kind(kind_text(kinded.kind)), kinded.kind)
        self.assertEqual(joined(kinded.kind, reckoning_kind(many)), reckoning_kind(many))
        self.answers(reckons(writing, many), True)
        found = plain(writing, 500)
        self.assertTrue(is_plain(found.writing) and not steps_of(found.writing))
        for place in steps_of(writing)[:3]:
            self.assertTrue(alike(plain(step_at(writing, place), 1000).writing, found.writing))
        if many == 0:
            self.answers(number_in(found.writing), reckoned(writing, []))
        table = table_of(writing, many)
        self.answers(same_numbers(writing, found.writing, many).parts, ())
        self.assertTrue(shows_same(found.writing, writing, many, Same()))
        self.assertEqual(noughts_only(writing, many), greatest_power(table) == 0)
        self.assertEqual(hangs_on(writing, many), hangs_on(found.writing, many))
        self.assertEqual(table_of(put_together(writing, own_letters(many), many), many), table)
        return table

    def test_drawn(self):
        draw = random.Random(211)
        for many in range(4):
            for _ in range(12):
                plain_one, rows = drawn_reckoning(draw, many, 6)
                for writing in (plain_one, dressed(draw, plain_one, 3)):
                    if signs_of(writing) <= 120 and layers_of(writing) <= 45:
                        self.assertEqual(self.passes_through(writing, many).rows, rows)

    def test_those_told(self):
        for writing, many in (
            (sum_writing(), 2), (product_writing(), 2), (chosen_writing(), 3), (number_writing(12), 0),
            (("of", "f", "f"), 0), (("of", "f", "f"), 1),
        ):
            self.passes_through(writing, many)

    def test_what_is_made(self):
        draw = random.Random(213)
        for many in range(4):
            for _ in range(8):
                table = small_table(draw, many)
                self.assertEqual(self.passes_through(made_writing(table), many), table)

    def test_what_is_put_together(self):
        draw = random.Random(215)
        for many in range(4):
            for writing in (sum_writing(), product_writing()):
                inner = [made_writing(drawn_table(draw, many, count=1, power=1, share=1)) for _ in range(2)]
                if sum(map(signs_of, inner)) < 150:
                    new = put_together(writing, inner, many)
                    self.passes_through(new, many)
                    # Those that reckon the same may stand for one another.
                    turned = put_together(writing, inner[::-1], many)
                    self.assertEqual(same_numbers(new, turned, many), Same())

    def test_do_and_table_of_and_reckoned(self):
        draw = random.Random(217)
        for many in range(4):
            for _ in range(10):
                writing, rows = drawn_reckoning(draw, many, 7)
                for numbers in rows_to(2, many):
                    value = told(Table(many, rows), numbers)
                    found = [reckoned(writing, numbers), table_of(writing, many).at(numbers)]
                    self.answers(found, [value, value])
                    if value <= 60:
                        self.answers(do(writing, numbers), value)


def own_letters(many):
    """For each of the numbers a writing that reckons just it."""
    names = "abc"[:many]
    return [read_writing(" ".join(f"of {other}" for other in names) + " " + name) for name in names]


class Tables(Cases):
    def test_there_and_back(self):
        draw = random.Random(219)
        for many in range(4):
            for table in drawn_tables(draw, many, 6, count=2, power=2, share=2):
                self.assertEqual(Table.read(str(table)), table)
                answers = []
                while next_ask(many, answers) is not None:
                    numbers = next_ask(many, answers)
                    if not answers or max(numbers, default=0) == 2:
                        value = table.at(numbers)
                        if value > {0: value, 1: 10 ** 18, 2: 10 ** 4, 3: 200}[sum(choice_of(numbers))]:
                            break
                    answers.append((numbers, table.at(numbers)))
                else:
                    self.assertEqual(told_by(many, answers), table)
                for choice, terms in zip(choices(many), table.rows):
                    self.assertTrue(is_polynomial(many, choice, terms))
                    rows = [(choice, table_with(choice, terms).at(choice))]
                    if rows[0][1] <= 12:
                        self.assertEqual(fits(many, rows).at(choice), rows[0][1])

    def test_writings_and_tables_part_alike(self):
        draw = random.Random(221)
        for many in range(4):
            for _ in range(10):
                one, other = small_table(draw, many), small_table(draw, many)
                paper = parting(one, other)
                writings = made_writing(one), made_writing(other)
                self.assertEqual(same_numbers(*writings, many), paper)
                self.assertTrue(shows_same(*writings, many, paper))
                if not paper:
                    values = [reckoned(writing, paper.numbers) for writing in writings]
                    self.assertEqual(values, [one.at(paper.numbers), other.at(paper.numbers)])
                    self.assertNotEqual(values[0], values[1])

    def test_put_in_and_put_together(self):
        draw = random.Random(223)
        for many in range(3):
            for _ in range(5):
                outer = drawn_table(draw, 1, count=1, power=2, share=1)
                inner = drawn_table(draw, many, count=1, power=1, share=1)
                new = put_together(made_writing(outer), [made_writing(inner)], many)
                self.assertEqual(table_of(new, many), outer.put_in([inner], many))


class Again(Cases):
    def test_equal_answers(self):
        """A call made again with equal arguments, lists for tuples, returns an equal value."""
        draw = random.Random(225)
        for many in range(4):
            table = small_table(draw, many)
            writing = made_writing(table)
            rows = [(numbers, table.at(numbers)) for numbers in rows_to(1, many) if table.at(numbers) <= 12]
            answers = [((0,) * many, 3)]
            for function, *args in (
                (made_writing, table), (fits, many, rows), (next_ask, many, answers), (table_of, writing, many),
                (put_together, writing, own_letters(many), many), (same_numbers, writing, writing, many),
                (plain, writing, 5), (kind_of, writing), (put, writing, "x", writing), (number_writing, 5),
                (sum_writing,), (product_writing,), (chosen_writing,),
            ):
                found = function(*args)
                for turned in (copy.deepcopy(args), map(listed, args), map(mixed, args)):
                    self.assertEqual(function(*turned), found)

    def test_nothing_that_is_passed_is_changed(self):
        draw = random.Random(227)
        for many in range(1, 4):
            table, other = small_table(draw, many), small_table(draw, many)
            writing = listed(made_writing(table))
            rows = [[list(numbers), table.at(numbers) % 13] for numbers in rows_to(1, many)]
            answers = [[[0] * many, 5]]
            letters = [listed(letter) for letter in own_letters(many)]
            passed = [table, other, writing, rows, answers, letters]
            before = copy.deepcopy(passed)
            for call in (
                lambda: made_writing(table), lambda: fits(many, rows), lambda: next_ask(many, answers),
                lambda: put_together(writing, letters, many), lambda: table_of(writing, many),
                lambda: same_numbers(writing, writing, many), lambda: shows_same(writing, writing, many, Parted([0])),
                lambda: reckoned(writing, [1] * many), lambda: parting(table, other), lambda: table.plus(other),
                lambda: table.times(other), lambda: table.put_in([other] * many, many), lambda: str(table),
                lambda: chosen(0, table, other), lambda: greatest_power(table), lambda: table.at([2] * many),
                lambda: hangs_on(writing, many), lambda: noughts_only(writing, many),
            ):
                call()
                self.assertEqual(passed, before)


class Papers(Cases):
    def test_parts_by_place_and_by_name(self):
        for kind, names in PAPERS.items():
            for value in ((), (1, (2,)), "x", None, True, 5):
                values = [value] * len(names)
                for paper in (kind(*values), kind(**dict(zip(names, values)))):
                    self.answers(paper.parts, tuple(values))
                    self.answers(paper.word, kind.__name__.lower())
                    self.answers([getattr(paper, name) for name in names], values)
                    self.answers(bool(paper), kind not in DENIALS)
                    self.assertIsInstance(paper, Paper)
                    self.assertEqual(isinstance(paper, Denial), kind in DENIALS)
            passed = [[1, [2, []]]] * len(names)
            paper = kind(*passed)
            self.answers([getattr(paper, name) for name in names], [fixed(value) for value in passed])

    def test_unlike_classes_are_unequal(self):
        made = [kind(*[()] * len(names)) for kind, names in PAPERS.items()]
        for at, one in enumerate(made):
            for where, other in enumerate(made):
                self.answers([one == other, one != other], [at == where, at != where])


class Errors(Cases):
    def test_each_is_raised(self):
        plus = sum_writing()
        raised = {}
        for name, fields, function, *args in (
            ("BadWriting", ["writing"], table_of, None, 1), ("BadKind", ["kind"], kind_text, ("o",)),
            ("BadNumber", ["many"], constant, 4, 0), ("BadTable", ["table"], made_writing, plus),
            ("Misfit", ["kind"], table_of, plus, 1), ("NoPlace", [(5,)], part_at, plus, (5,)),
            ("NoName", ["of"], put, plus, "of", plus), ("TooMany", ["weight", 30], made_writing, constant(0, 30)),
            ("BadText", [0, 0], Table.read, 5), ("BadText", [0, 2], Table.read, "1 :"),
            ("Impossible", [Untold((1,))], told_by, 1, [((0,), 0), ((2,), 3), ((4,), 9)]),
        ):
            error = getattr(errors, name)
            with self.assertRaises(errors.AgainError) as caught:
                function(*args)
            self.assertIs(type(caught.exception), error)
            self.assertEqual(list(vars(caught.exception).values()), fields)
            raised[name] = True
        defined = [name for name, value in vars(errors).items() if isinstance(value, type)]
        self.assertEqual(sorted([*raised, "AgainError", "Missing"]), sorted(defined))


class Great(Cases):
    def test_numbers_of_1500_digits(self):
        first, second = place_table(2, 0), place_table(2, 1)
        table = first.times(second).plus(first)
        writing = made_writing(table)
        self.assertEqual(reckoned(writing, [GREAT, GREAT]), GREAT * GREAT + GREAT)
        self.assertTrue(shows_same(writing, made_writing(first), 2, Parted([GREAT, 1])))
        self.assertFalse(shows_same(writing, made_writing(first), 2, Parted([GREAT, 0])))
        self.assertEqual(told_by(0, [((), GREAT)]), constant(0, GREAT))


if __name__ == "__main__":
    unittest.main()
