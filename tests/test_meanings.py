import random
import unittest

from drawn_tables import GREAT, NO_MANY, choices, in_tuples, rows_to, told
from helpers import NO_WRITINGS, Cases, listed, mixed
from reckonings import TooGreat, counted, drawn_reckoning, dressed

from timesagain.errors import BadNumber, BadWriting, Misfit, TooMany
from timesagain.kinds import reckons
from timesagain.meanings import hangs_on, noughts_only, reckoned, table_of
from timesagain.numbers import chosen_writing, do, number_writing, product_writing, sum_writing
from timesagain.steps import plain
from timesagain.tables import Table, chosen, constant, place_table
from timesagain.writings import layers_of, read_writing, signs_of, writing_text

FREE = ["x", "to x x", "of n m", "of n to n x", "of f of x to f y", "to of x x y"]
# With the numbers that each of them reckons.
KINDS = [
    ("of n to n n", []), ("of m of n to m n", [0, 1]), ("of x of y of z of w of v x", []), ("of n of m n", [2]),
    ("to of x to x x of x to x x", []), ("of f of x x", [0, 1, 2]), ("of a of b of c of d a", []),
    ("of x x", [0, 1]), ("of f of x to f x", [0, 1]), ("of a of b of c of f of x x", [3]),
]
NO_NUMBERS = [
    None, True, 0, 5, "", "12", {}, {1: 2}, [True], [False], [-1], (1, -1), [1.0], ["1"], [None], [[1]], [1, 2, 3, 4],
    (0,) * 4, range(2), object(),
]


def number_text(number):
    return writing_text(number_writing(number))


def to_the_power(power):
    """Of one number, this number to the power, from 15 times 4 on with some more."""
    often = f"to to {number_text(4)} to {number_text(15)} of g to n g f"
    return read_writing("of n of f " + "to n " * (power - 60) + often)


def drawn(seed, count, size, many=None):
    """Plain writings with the rows of their tables, and others that steps lead to them, within the bounds."""
    draw = random.Random(seed)
    found = []
    while len(found) < count:
        numbers = draw.randrange(4) if many is None else many
        writing, rows = drawn_reckoning(draw, numbers, draw.randrange(1, size))
        full = dressed(draw, writing, draw.randrange(1, 7))
        if signs_of(full) <= 200 and layers_of(full) <= 50:
            found.append((numbers, writing, full, rows))
    return found


DRAWN = drawn(151, 120, 12) + drawn(152, 60, 30)


class Tables(Cases):
    def check(self, text, many, rows):
        writing = read_writing(text)
        for value in (writing, listed(writing), mixed(writing)):
            table = table_of(value, many)
            self.assertIs(type(table), Table)
            self.answers([table.many, table.rows], [many, rows])
        for other in range(4):
            if other != many and not reckons(writing, other):
                self.refuses(Misfit, ["kind"], table_of, writing, other)

    def test_numbers(self):
        for number in range(41):
            self.assertEqual(table_of(number_writing(number), 0), constant(0, number))
        self.check("of f f", 0, ((((), 1),),))
        self.check("of f of x x", 0, ((),))

    def test_one_number(self):
        letter, one = (((1,), 1),), (((0,), 1),)
        for text, nought, above in (
            ("of n n", (), letter), ("of n of f to n f", (), letter), ("of n of f of x to to n f x", (), letter),
            ("of f f", (), letter), ("of n of f of x x", (), ()), ("of n of f f", one, one),
            ("of n of f of x to f to to n f x", one, one + letter), ("of n of f to n to n f", (), (((2,), 1),)),
            ("of n of f of x to to n of u to f x x", (), one), ("of n of f of x to to n of u x to f x", one, ()),
            ("of n of f of x to to n of u to to n of w to f w u x", (), (((2,), 1),)),
            ("of n of f of x to to n of u to to n of w to f u x x", (), letter),
            ("of n of f of x to to n of u to to n of w to f w x x", (), letter),
            ("of n of f of x to to n of u to f to f u to f x", one, one + (((1,), 2),)),
            ("of n of f of x to to n of u to to n of w u to f u x", (), ()),
            ("of n of f of x to to n of u to to n of w x to f u to f to f x", (((0,), 2),), ()),
            ("of n of f of x to to n of u to f to to n of w u x to f x", one, one + letter),
            ("of n of f of x to to n of u to f to to n of w w u to f x", one, one + letter),
        ):
            self.check(text, 1, (nought, above))

    def test_two_and_three(self):
        first, second = place_table(2, 0), place_table(2, 1)
        self.assertEqual(table_of(sum_writing(), 2), first.plus(second))
        self.assertEqual(table_of(product_writing(), 2), first.times(second))
        letters = [place_table(3, place) for place in range(3)]
        self.assertEqual(table_of(chosen_writing(), 3), chosen(0, letters[1], letters[2]))
        for place, name in enumerate("abc"):
            self.assertEqual(table_of(read_writing(f"of a of b of c {name}"), 3), letters[place])
        thrice = read_writing("of a of b of c of f to a to b to c f")
        self.assertEqual(table_of(thrice, 3), letters[0].times(letters[1]).times(letters[2]))
        inner = read_writing("of n of m of f of x to to n of u to to m of w to f w u x")
        self.assertEqual(table_of(inner, 2), first.times(second))
        lost = read_writing("of n of m of f of x to to n of u to to m of w to f u x x")
        # Where the second is nought, the doing leads to x.
        self.check(writing_text(lost), 2, ((), (), (), (((1, 0), 1),)))

    def test_functions_of_functions(self):
        two, three = number_text(2), number_text(3)
        self.check(f"to {two} {three}", 0, ((((), 9),),))
        self.check(f"to {three} {two}", 0, ((((), 8),),))
        self.check(f"to to {two} {two} {two}", 0, ((((), 16),),))
        self.check(f"of n of f to to {three} of g of y to to n g y f", 1, ((), (((3,), 1),)))
        self.check(f"of n of f to to {two} of g of y to f to to n g y f", 1, (
            (((0,), 1),), (((0,), 1), ((1,), 1), ((2,), 1)),
        ))
        self.check("to of t of n to t to t n of n of f to n f", 1, ((), (((1,), 1),)))
        self.check(f"to of t of n to t to t n of n of f of x to f to to n f x", 1, (
            (((0,), 2),), (((0,), 2), ((1,), 1)),
        ))

    def test_names_bound_anew(self):
        letter, one = (((1,), 1),), (((0,), 1),)
        for text, many, rows in (
            ("of x of f of x to f x", 1, (one, one)), ("of f of x of f of x to f x", 2, ((((0, 0), 1),),) * 4),
            ("of n of f of x to to n of x to f x x", 1, ((), letter)),
            ("of n of n of f of x to to n of x to f x x", 2, ((), (((0, 1), 1),)) * 2),
            ("of f of x of f to x f", 2, ((), (((0, 1), 1),)) * 2),
            ("of n of f of x to to n of f to of x x f x", 1, ((), ())),
            ("of n of f of x to to n to of n n f x", 1, ((), letter)),
            ("of n of f of x to f to of f to f x of x to to n of x to f x x", 1, (one, one + letter)),
            ("of n of f of x to f to of g to g x of x to to n of x to f x x", 1, (one, one + letter)),
            ("of n of f to to of f of n to n f f of f to n f", 1, ((), letter)),
        ):
            self.check(text, many, rows)

    def test_drawn(self):
        self.assertGreater(len({rows for _, _, _, rows in DRAWN}), 60)
        for many, writing, full, rows in DRAWN:
            for value in (writing, full, listed(full), mixed(full)):
                table = table_of(value, many)
                self.answers([table.many, table.rows], [many, rows])

    def test_what_do_comes_to(self):
        done = 0
        for many, _, full, _ in DRAWN:
            table = table_of(full, many)
            for numbers in rows_to(2 if many > 1 else 4, many):
                try:
                    count = counted(full, numbers)
                except TooGreat:
                    continue
                self.answers(table.at(numbers), count)
                try:
                    self.answers(do(full, numbers), count)
                except TooMany:
                    continue
                done += 1
        self.assertGreater(done, 500)

    def test_plain_ones_have_the_same_table(self):
        for many, _, full, rows in DRAWN[:60]:
            self.answers(table_of(plain(full, 500).writing, many).rows, rows)

    def test_what_is_thrown_away(self):
        """What is handed and not used would do f more than 10 ** 19,000 times."""
        two = " of f of x to f to f x"
        great = "to to to to to to a b c d e f x"
        one = (((0,), 1),)
        for body, rows in (
            (f"to of u x {great}", ((), ())), (f"to f to of u x {great}", (one, one)),
            (f"to to of v of w w {great} x", ((), ())), (f"to to of v f {great} x", (one, one)),
            (f"to to n of u to of w to f u {great} x", ((), (((1,), 1),))),
            (f"to of v to f x of w {great}", (one, one)), (f"to of v to v x of w to f x", (one, one)),
            # Just what is nought, or is wiped out by a doing, would have to be done.
            (f"to to n of u to to n of w to f x {great} x", ((), one)),
            (f"to to n of u to to n of w to to n of v to f x {great} to f x x", ((), one)),
        ):
            writing = read_writing("to " * 5 + "of a of b of c of d of e of n of f of x " + body + two * 5)
            self.answers(table_of(writing, 1).rows, rows)
            self.answers([reckoned(writing, [0]), hangs_on(writing, 1)], [len(rows[0]), (0,) * (rows[0] != rows[1])])

    def test_powers(self):
        self.answers(table_of(to_the_power(60), 1).rows, ((), (((60,), 1),)))
        for power in (61, 62, 70):
            writing = to_the_power(power)
            self.assertLessEqual(layers_of(writing), 50)
            for function, value in (
                (table_of, 1), (hangs_on, 1), (noughts_only, 1), (reckoned, [0]), (reckoned, [1]), (reckoned, (7,)),
            ):
                self.refuses(TooMany, ["power", 60], function, writing, value)
        # Just 60 of each of two numbers; and one more of the second one alone.
        often = f"to to {number_text(4)} to {number_text(15)} of g to n to m g"
        both = read_writing(f"of n of m of f {often} f")
        self.answers(table_of(both, 2).rows, ((), (), (), (((60, 60), 1),)))
        above = read_writing(f"of n of m of f to m {often} f")
        self.refuses(TooMany, ["power", 60], table_of, above, 2)
        self.refuses(TooMany, ["power", 60], reckoned, above, [0, 5])
        # Powers that nothing asks for do not count.
        great = f"to to to {writing_text(to_the_power(61))} n f x"
        for text in ("of n of f of x to of u x ", "of n of f of x to to n of u x "):
            self.answers(table_of(read_writing(text + great), 1).rows, ((), ()))

    def test_great_ones(self):
        often = f"to to {number_text(7)} to {number_text(7)} of g of y to f to to n g y f"
        table = table_of(read_writing(f"of n of f {often}"), 1)
        self.answers(table.rows, ((((0,), 1),), tuple(((power,), 1) for power in range(50))))
        writing = read_writing(
            f"of n of m of p of f to to {number_text(12)} of g of y to to n g to to m g to to p g to g y f"
        )
        table = table_of(writing, 3)
        for numbers in ((0, 0, 0), (1, 2, 3), (5, 0, 7), (GREAT, 1, GREAT)):
            self.assertEqual(table.at(numbers), (sum(numbers) + 1) ** 12)
        self.assertEqual(table, table_of(writing, 3))

    def test_refused(self):
        plus = sum_writing()
        for function in (table_of, hangs_on, noughts_only):
            for value in NO_WRITINGS:
                self.refuses(BadWriting, ["writing"], function, value, 0)
                self.refuses(BadWriting, ["writing"], function, value, None)
            for writing in (plus, "x", read_writing("of n to n n"), to_the_power(61)):
                for many in NO_MANY:
                    self.refuses(BadNumber, ["many"], function, writing, many)
            for text in FREE + ["to x of n to n n", f"to of u {writing_text(to_the_power(61))} x"]:
                for many in range(4):
                    self.refuses(Misfit, ["free"], function, read_writing(text), many)
            for text, fitting in KINDS:
                for many in range(4):
                    if many not in fitting:
                        self.refuses(Misfit, ["kind"], function, read_writing(text), many)
            for many in (2, 3):
                self.refuses(Misfit, ["kind"], function, to_the_power(61), many)
        self.answers(table_of(many=1, writing=["of", "n", "n"]).rows, ((), (((1,), 1),)))


class Reckoned(Cases):
    def test_drawn(self):
        draw = random.Random(153)
        for many, writing, full, rows in DRAWN:
            for choice in choices(many):
                numbers = [draw.choice([1, 2, draw.randrange(GREAT)]) * sign for sign in choice]
                value = told(Table(many, rows), numbers)
                self.assertIs(type(reckoned(full, numbers)), int)
                self.assertEqual([reckoned(full, numbers), reckoned(writing, tuple(numbers))], [value, value])

    def test_told_ones(self):
        self.answers(reckoned(sum_writing(), [GREAT, GREAT]), 2 * GREAT)
        self.answers(reckoned(product_writing(), [GREAT, 0]), 0)
        self.answers(reckoned(chosen_writing(), (0, 5, 6)), 5)
        self.answers(reckoned(chosen_writing(), (GREAT, 5, 6)), 6)
        self.answers([reckoned(("of", "f", "f"), []), reckoned(("of", "f", "f"), [8])], [1, 8])
        self.assertEqual(reckoned(to_the_power(60), [GREAT]), GREAT ** 60)
        self.answers(reckoned(numbers=[2, 3], writing=sum_writing()), 5)

    def test_refused(self):
        for value in NO_WRITINGS:
            self.refuses(BadWriting, ["writing"], reckoned, value, [])
            self.refuses(BadWriting, ["writing"], reckoned, value, None)
        for numbers in NO_NUMBERS:
            for writing in (sum_writing(), "x", read_writing("of n to n n"), to_the_power(61)):
                self.refuses(BadNumber, ["numbers"], reckoned, writing, numbers)
        for text in FREE:
            for count in range(4):
                self.refuses(Misfit, ["free"], reckoned, read_writing(text), [1] * count)
        for text, fitting in KINDS:
            for count in range(4):
                if count not in fitting:
                    self.refuses(Misfit, ["kind"], reckoned, read_writing(text), [GREAT] * count)
        self.refuses(Misfit, ["kind"], reckoned, to_the_power(61), [1, 2])


class HangsOn(Cases):
    def check(self, text, many, places, noughts):
        writing = read_writing(text)
        self.answers([hangs_on(writing, many), noughts_only(writing, many)], [places, noughts])
        self.answers([hangs_on(listed(writing), many), noughts_only(listed(writing), many)], [places, noughts])

    def test_told_ones(self):
        for text, many, places, noughts in (
            ("of f f", 0, (), True), ("of f of x x", 0, (), True), ("of n n", 1, (0,), False),
            ("of n of f f", 1, (), True), ("of n of f of x to to n of u to f x x", 1, (0,), True),
            ("of n of f of x to to n of u to f x to f x", 1, (), True),
            ("of n of f of x to to n of u to f u to f x", 1, (0,), False),
            ("of n of m n", 2, (0,), False), ("of n of m m", 2, (1,), False), ("of n of m of f f", 2, (), True),
            ("of n of m of f of x to to n f to to m f x", 2, (0, 1), False),
            ("of n of m of f of x to to n of u to to m of w to f x x x", 2, (0, 1), True),
            ("of n of m of f of x to to n of u to to m f x x", 2, (0, 1), False),
            ("of n of m of f of x to to n of u to f x to to m of w to f x x", 2, (0, 1), True),
            ("of a of b of c c", 3, (2,), False), ("of a of b of c of f of x x", 3, (), True),
            ("of a of b of c of f of x to to a f to to c f x", 3, (0, 2), False),
            ("of a of b of c of f of x to to b of u to f x x", 3, (1,), True),
            ("of n of a of b of f of x to to n of u to to b f x to to a f x", 3, (0, 1, 2), False),
        ):
            with self.subTest(text=text):
                self.check(text, many, places, noughts)

    def test_drawn(self):
        """Held against what two rows tell that are unlike at one number alone."""
        for many, _, full, rows in DRAWN:
            table = Table(many, rows)
            unlike = []
            for place in range(many):
                for numbers in rows_to(6 if many < 3 else 3, many):
                    more = numbers[:place] + (numbers[place] + 1,) + numbers[place + 1:]
                    if told(table, numbers) != told(table, more):
                        unlike.append(place)
                        break
            self.answers(hangs_on(full, many), tuple(unlike))
            powers = [power for terms in rows for row, _ in terms for power in row]
            self.answers(noughts_only(full, many), not any(powers))
            self.assertTrue(in_tuples(hangs_on(full, many)))

    def test_by_name(self):
        self.answers(hangs_on(many=1, writing=("of", "n", "n")), (0,))
        self.answers(noughts_only(many=1, writing=("of", "n", "n")), False)


if __name__ == "__main__":
    unittest.main()
