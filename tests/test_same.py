import random
import unittest

from drawn_tables import NO_MANY
from helpers import NO_WRITINGS, Cases, listed, mixed
from reckonings import drawn_reckoning, dressed
from test_meanings import FREE, KINDS, number_text, to_the_power

from timesagain.errors import BadNumber, BadWriting, Misfit, TooMany
from timesagain.meanings import table_of
from timesagain.numbers import chosen_writing, do, number_writing, product_writing, sum_writing
from timesagain.same import same_numbers
from timesagain.tables import Parted, Same, Table, parting
from timesagain.writings import layers_of, read_writing, signs_of

ITSELF = read_writing("of n n")


def drawn_pairs(seed, count, size):
    """For none to three numbers pairs of writings with the rows of their tables."""
    draw = random.Random(seed)
    found = []
    while len(found) < count:
        many = draw.randrange(4)
        pair = [drawn_reckoning(draw, many, size) for _ in range(2)]
        full = [dressed(draw, writing, draw.randrange(4)) for writing, _ in pair]
        if max(map(signs_of, full)) <= 200 and max(map(layers_of, full)) <= 50:
            found.append((many, full, [rows for _, rows in pair]))
    return found


class SameNumbers(Cases):
    def check(self, one, other, many, numbers):
        """The writings reckon the same, for which numbers are None, or part at just these least numbers."""
        for first, second in ((one, other), (other, one), (listed(one), mixed(other))):
            paper = same_numbers(first, second, many)
            if numbers is None:
                self.assertIs(type(paper), Same)
                self.assertEqual(paper, Same())
            else:
                self.assertIs(type(paper), Parted)
                self.answers([paper.numbers, bool(paper)], [numbers, False])

    def check_texts(self, one, other, many, numbers):
        self.check(read_writing(one), read_writing(other), many, numbers)

    def test_the_same(self):
        for one, other, many in (
            ("of f f", "of f of x to f x", 0), ("of f of x to f to f x", "to of n n of f of x to f to f x", 0),
            (f"to {number_text(2)} {number_text(3)}", number_text(9), 0),
            ("of n n", "of n of f to n f", 1), ("of n n", "of n of f of x to to n of u to f u x", 1),
            ("of n of f of x to to n of u to to n of w to f u x x", "of n n", 1),
            ("of n of f of x to to n of u to to n of w to f w u x", "of n of f to n to n f", 1),
            ("of n of f of x to to n of u x x", "of n of f of x x", 1),
            ("of n of m of f of x to to n f to to m f x", "of n of m of f of x to to m f to to n f x", 2),
            ("of n of m of f to n to m f", "of n of m of f to m to n f", 2),
            ("of n of m of f of x to to n of u to to m of w to f w u x", "of n of m of f to n to m f", 2),
            ("of a of b of c of f to a to b to c f", "of a of b of c of f to c to a to b f", 3),
        ):
            with self.subTest(one=one):
                self.check_texts(one, other, many, None)

    def test_parted(self):
        above = "of n of f of x to to n of u to f x x"
        nought = "of n of f of x to to n of u x to f x"
        for one, other, many, numbers in (
            ("of f f", "of f of x x", 0, ()), (number_text(2), number_text(3), 0, ()),
            # Apart at nought alone, at one, at two.
            (nought, "of n of f of x x", 1, (0,)), (above, "of n of f f", 1, (0,)),
            (above, "of n of f of x x", 1, (1,)), (above, "of n n", 1, (2,)),
            ("of n of f to n to n f", "of n n", 1, (2,)),
            # n n and 2 are 3 n at 1 and at 2; at 0 both take 0.
            ("of n of f of x to to n f to to n f to to n f x",
             "of n of f of x to to n of u to to n f u to to n of u to f to f x x", 1, (3,)),
            ("of n of m of f of x to to n f to to m f x", "of n of m of f to n to m f", 2, (0, 1)),
            # The second number alone.
            ("of n of m n", "of n of m of f of x to to m of u to to n f x x", 2, (1, 0)),
            ("of n of m of f of x to to m of u to f x x", "of n of m m", 2, (0, 2)),
            ("of n of m of f to n to m f", "of n of m of f to m to m to n f", 2, (1, 2)),
            ("of n of m m", "of n of m n", 2, (0, 1)),
            ("of a of b of c of f to a to b to c f", "of a of b of c of f to a to a to b to c f", 3, (2, 1, 1)),
            ("of a of b of c of f to a to b to c f", "of a of b of c of f to a to b to c to c f", 3, (1, 1, 2)),
            ("of a of b of c a", "of a of b of c b", 3, (0, 1, 0)),
        ):
            with self.subTest(one=one, other=other):
                self.check_texts(one, other, many, numbers)
                values = [do(read_writing(text), numbers) for text in (one, other)]
                self.assertNotEqual(values[0], values[1])

    def test_the_writings_told(self):
        self.check(chosen_writing(), read_writing("of n of a of b a"), 3, (1, 0, 1))
        self.check(chosen_writing(), read_writing("of n of a of b b"), 3, (0, 0, 1))
        self.check(sum_writing(), product_writing(), 2, (0, 1))
        for number in range(20):
            self.check(number_writing(number), number_writing(number + 1), 0, ())
            self.check(number_writing(number), number_writing(number), 0, None)

    def test_drawn(self):
        same = 0
        for many, full, rows in drawn_pairs(161, 150, 6):
            tables = [Table(many, told) for told in rows]
            paper = same_numbers(full[0], full[1], many)
            self.assertEqual(paper, parting(*tables))
            self.assertEqual(same_numbers(full[1], full[0], many), paper)
            self.assertEqual(bool(paper), rows[0] == rows[1])
            same += bool(paper)
            if not paper:
                self.assertNotEqual(tables[0].at(paper.numbers), tables[1].at(paper.numbers))
        self.assertGreater(same, 20)

    def test_dressed(self):
        draw = random.Random(163)
        for _ in range(40):
            many = draw.randrange(4)
            writing, rows = drawn_reckoning(draw, many, 8)
            self.check(writing, dressed(draw, writing, 4), many, None)
            self.assertEqual(table_of(writing, many).rows, rows)

    def test_powers(self):
        just, above = to_the_power(60), to_the_power(61)
        self.check(just, just, 1, None)
        self.check(just, ITSELF, 1, (2,))
        for one, other in ((above, just), (just, above), (above, ITSELF), (ITSELF, above), (above, above)):
            self.refuses(TooMany, ["power", 60], same_numbers, one, other, 1)

    def test_refused(self):
        plus, above = sum_writing(), to_the_power(61)
        for value in NO_WRITINGS:
            self.refuses(BadWriting, ["one"], same_numbers, value, plus, 2)
            self.refuses(BadWriting, ["one"], same_numbers, value, value, None)
            self.refuses(BadWriting, ["other"], same_numbers, plus, value, 2)
            self.refuses(BadWriting, ["other"], same_numbers, "x", value, None)
        for many in NO_MANY:
            for one, other in ((plus, plus), ("x", plus), (plus, "x"), (ITSELF, plus), (above, ITSELF)):
                self.refuses(BadNumber, ["many"], same_numbers, one, other, many)
        kindless = read_writing("of n to n n")
        for text in FREE:
            for other in (plus, ITSELF, kindless, above, read_writing("of n of m of l of k of j m")):
                for many in range(4):
                    self.refuses(Misfit, ["free"], same_numbers, read_writing(text), other, many)
                    self.refuses(Misfit, ["free"], same_numbers, other, read_writing(text), many)
        for text, fitting in KINDS:
            for many, fit in enumerate([number_writing(3), ITSELF, plus, chosen_writing()]):
                if many not in fitting:
                    self.refuses(Misfit, ["kind"], same_numbers, read_writing(text), fit, many)
                    self.refuses(Misfit, ["kind"], same_numbers, fit, read_writing(text), many)
        self.refuses(Misfit, ["kind"], same_numbers, above, plus, 1)
        self.refuses(Misfit, ["kind"], same_numbers, plus, above, 1)
        self.assertEqual(same_numbers(many=1, other=ITSELF, one=ITSELF), Same())


if __name__ == "__main__":
    unittest.main()
