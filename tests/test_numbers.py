import itertools
import unittest

import reference
from helpers import NO_WRITINGS, Cases, chain, listed, many_drawn, mixed, spread, tower

from timesagain.errors import BadNumber, BadWriting, Misfit, TooMany
from timesagain.kinds import reckons
from timesagain.numbers import chosen_writing, do, number_in, number_writing, product_writing, sum_writing
from timesagain.steps import is_plain, plain
from timesagain.writings import alike, free_names, layers_of, put, read_writing, signs_of

PLUS = sum_writing()
NO_NUMBERS = [
    None, True, 0, 5, "", "12", {}, {1: 2}, [True], [False], [-1], (1, -1), [1.0], ["1"], [None], [[1]],
    [1, 2, 3, 4], (0,) * 4, range(2), [13], [0, 13], (1, 2, 13), [10 ** 40],
]


def number_text(number, function="f", end="x"):
    return read_writing(f"of {function} of {end} " + f"to {function} " * number + end)


class NumberWriting(Cases):
    def test_each(self):
        for number in range(41):
            writing = number_writing(number)
            self.assertTrue(alike(writing, number_text(number)))
            self.assertEqual(signs_of(writing), 3 + 2 * number)
            self.answers(number_in(writing), number)
            self.assertEqual(free_names(writing), ())
            self.assertTrue(is_plain(writing) and reckons(writing, 0))

    def test_refused(self):
        for number in (None, True, False, -1, 41, 10 ** 50, "1", 1.0, [1], (1,), {}):
            self.refuses(BadNumber, ["number"], number_writing, number)

    def test_by_name(self):
        self.assertTrue(alike(number_writing(number=1), number_text(1)))


class NumberIn(Cases):
    def test_numbers(self):
        for number in list(range(45)) + [90, 190, 197]:
            for writing in (number_text(number), number_text(number, "b", "a"), number_text(number, "x2", "x1")):
                self.answers(number_in(writing), number)
                if number < 50:
                    self.answers(number_in(listed(writing)), number)
                    self.answers(number_in(mixed(writing)), number)

    def test_told_ones(self):
        for text, expected in (
            ("of f f", 1), ("of x x", 1), ("of f of f f", 0), ("of x of f x", None), ("of x of f f", 0),
            ("of f of x f", None),
            ("of f of x to x f", None), ("of f of x to f f", None), ("of f of x to x x", None), ("of x of f to x f", 1),
            ("of f of x to to f x x", None), ("of f of x to f to x x", None), ("of f of x to f to f f", None),
            ("of f of x to f y", None), ("of f of x y", None), ("of f of y to f x", None), ("of f y", None),
            ("f", None),
            ("to f x", None), ("of f of x of y x", None), ("of f of x of f x", None), ("of f of x of y to f x", None),
            ("to of x x of f of x x", None), ("to of x x of f f", None), ("of f to of x x f", None),
            ("of f to f f", None),
            ("of f of x to f to of y y x", None), ("of f of x to of y to f y x", None), ("of f of x to of y y x", None),
            ("of f of x to of f f x", None), ("of f of f to f f", None), ("of x of x to x x", None),
            ("of f of x to f to f x", 2),
            ("of f of f f", 0), ("of f of g of x to f to g x", None), ("to to of f of x x a b", None),
        ):
            with self.subTest(text=text):
                self.answers(number_in(read_writing(text)), expected)

    def test_drawn(self):
        """Just what is plain, closed and of the number kind tells a number."""
        found = []
        drawn = [("of", "f", writing) for writing in many_drawn(300, 6, "fx", 61)]
        for writing in drawn + [("of", "f", ("of", "x", writing)) for writing in many_drawn(500, 7, "fx", 62)]:
            is_one = is_plain(writing) and not free_names(writing) and reckons(writing, 0)
            number = number_in(writing)
            self.assertEqual(number is not None, is_one)
            if is_one:
                told = number_text(number)
                mine, other = [reference.plain(("to", ("to", one, "f"), "x"), 9) for one in (writing, told)]
                self.assertEqual(mine[0], other[0])
                found.append(number)
        self.assertLessEqual({0, 1, 2}, set(found))

    def test_no_writings(self):
        for value in NO_WRITINGS:
            self.refuses(BadWriting, ["writing"], number_in, value)

    def test_by_name(self):
        self.answers(number_in(writing=["of", "x", "x"]), 1)

    def test_great_ones(self):
        self.answers(number_in(put(tower(101, "x", "w"), "w", tower(100))), None)
        self.answers(number_in(("of", "f", ("of", "x", chain(198, "f", "x")))), 197)
        self.answers(number_in(("of", "x", spread("x", 1999))), None)


class Do(Cases):
    def check(self, text, count, value, rows):
        writing = read_writing(text)
        for row in rows:
            self.answers(do(writing, row), value(*row))
            self.answers(do(listed(writing), list(row)), value(*row))
            handed = writing
            for number in row:
                handed = ("to", handed, number_writing(number))
            self.assertEqual(number_in(plain(handed, 1000).writing), value(*row))
        for other in range(4):
            if other != count and not reckons(writing, other):
                self.refuses(Misfit, ["kind"], do, writing, [1] * other)

    def test_none(self):
        for text, value in (
            ("of f of x x", 0), ("of f f", 1), ("of f of x to f to f x", 2), ("to of x x of f of x to f to f x", 2),
            ("to of f of x to f to f x of f of x to f to f to f x", 9), ("to to of a of b b of x x of f f", 1),
            ("to of f of x to f to f x of x x", 1),
        ):
            self.check(text, 0, lambda: value, [()])

    def test_one(self):
        numbers = [(number,) for number in range(13)]
        for text, value in (
            ("of n n", lambda n: n), ("of n of f of x x", lambda n: 0), ("of n of f f", lambda n: 1),
            ("of n of f to n f", lambda n: n),
            ("of n of f of x to f to to n f x", lambda n: n + 1), ("of n of f to n to n f", lambda n: n * n),
            ("of n of f of x to to n of u to f x x", lambda n: min(n, 1)),
            ("of n of f of x to to n of u x to f x", lambda n: int(n == 0)),
            ("of n of f of x to to n of u to to n of w to f w u x", lambda n: n * n),
            ("of n of f of x to to n of u to f x to f to f x", lambda n: 1 if n else 2),
        ):
            self.check(text, 1, value, numbers)

    def test_two_and_three(self):
        pairs = list(itertools.product((0, 1, 2, 5, 12), repeat=2))
        self.check("of n of m of f of x to to n f to to m f x", 2, lambda n, m: n + m, pairs)
        self.check(
            "of n of m of f to n to m f", 2, lambda n, m: n * m, [pair for pair in pairs if pair[0] * pair[1] < 150]
        )
        self.check("of n of m n", 2, lambda n, m: n, pairs)
        self.check("of n of m m", 2, lambda n, m: m, pairs)
        triples = list(itertools.product((0, 1, 3), repeat=3)) + [(12, 0, 12), (0, 12, 0), (12, 12, 12)]
        self.check("of a of b of c b", 3, lambda a, b, c: b, triples)
        self.check(
            "of n of a of b of f of x to to n of u to to b f x to to a f x", 3, lambda n, a, b: b if n else a, triples,
        )

    def test_too_many(self):
        thrice = read_writing("of a of b of c of f to a to b to c f")
        self.answers(do(thrice, [4, 5, 6]), 120)
        self.answers(do(thrice, [1, 12, 12]), 144)
        self.refuses(TooMany, ["layers", 200], do, thrice, [12, 12, 12])
        power = number_text(12)
        for _ in range(4):
            power = ("to", number_text(2), power)
        self.refuses(TooMany, ["signs", 2000], do, ("to", ("of", "v", power), number_text(0)), [])
        # 24 times 36 times nothing is done.
        nothing = ("of", "z", ("to", ("to", number_text(36), ("of", "v", "v")), "z"))
        slow = ("to", ("to", number_text(24), nothing), ("of", "f", "f"))
        for _ in range(62):
            slow = ("to", ("of", "z", "z"), slow)
        self.answers(plain(slow, 1000).steps, 1000)
        self.answers(do(slow, []), 1)
        self.refuses(TooMany, ["steps", 1000], do, ("to", ("of", "z", "z"), slow), [])

    def test_at_the_bounds(self):
        self.answers(do(number_text(197), []), 197)
        self.answers(do(("to", ("of", "z", "z"), number_text(196)), []), 196)
        self.refuses(TooMany, ["layers", 200], do, ("to", ("of", "z", "z"), number_text(197)), [])
        self.refuses(TooMany, ["layers", 200], do, number_text(198), [])

    def test_refused(self):
        for value in NO_WRITINGS:
            self.refuses(BadWriting, ["writing"], do, value, [])
            self.refuses(BadWriting, ["writing"], do, value, None)
        for numbers in NO_NUMBERS:
            for writing in (PLUS, "x", ("to", "x", "x"), read_writing("of n to n n")):
                self.refuses(BadNumber, ["numbers"], do, writing, numbers)
        for text in ("x", "to x x", "of n m", "of n to n x", "of f of x to f y"):
            for numbers in ([], [1], [1, 2], [1, 2, 3]):
                self.refuses(Misfit, ["free"], do, read_writing(text), numbers)
        for text, fitting in (
            ("of n to n n", []), ("of m of n to m n", [0, 1]), ("of x of y of z of w of v x", []), ("of n of m n", [2]),
            ("to of x to x x of x to x x", []), ("of f of x x", [0, 1, 2]), ("of a of b of c of d a", []),
        ):
            for count in range(4):
                if count not in fitting:
                    self.refuses(Misfit, ["kind"], do, read_writing(text), [2] * count)

    def test_by_name(self):
        self.answers(do(numbers=(2, 3), writing=PLUS), 5)


class TheWritings(Cases):
    def check(self, writing, many, value):
        self.assertEqual(free_names(writing), ())
        self.assertLessEqual(signs_of(writing), 40)
        self.assertLessEqual(layers_of(writing), 50)
        for count in range(4):
            self.answers(reckons(writing, count), count == many)
        for row in itertools.product(range(5), repeat=many):
            self.answers(do(writing, row), value(*row))
            handed = writing
            for number in row:
                handed = ("to", handed, number_writing(number))
            self.assertLessEqual(plain(handed, 20).steps, 20)

    def test_sum(self):
        self.check(sum_writing(), 2, lambda n, m: n + m)
        self.answers(do(sum_writing(), [12, 12]), 24)

    def test_product(self):
        self.check(product_writing(), 2, lambda n, m: n * m)
        self.answers(do(product_writing(), [12, 12]), 144)

    def test_chosen(self):
        self.check(chosen_writing(), 3, lambda n, a, b: b if n else a)
        self.answers([do(chosen_writing(), [0, 12, 7]), do(chosen_writing(), [12, 12, 7])], [12, 7])


if __name__ == "__main__":
    unittest.main()
