import itertools
import random
import unittest

from drawn_tables import NO_MANY, NO_TABLES, OtherTable, choices, row_at, rows_to, told
from helpers import NO_WRITINGS, Cases, listed, mixed, tower
from reckonings import drawn_reckoning, dressed
from test_meanings import FREE, KINDS, to_the_power

from timesagain.errors import BadNumber, BadTable, BadWriting, Misfit, TooMany
from timesagain.kinds import kind_of, kind_text, reckons
from timesagain.made import made_writing, put_together
from timesagain.meanings import reckoned, table_of
from timesagain.numbers import chosen_writing, do, number_writing, product_writing, sum_writing
from timesagain.places import part_at, places_of
from timesagain.steps import plain
from timesagain.tables import Table, constant, place_table
from timesagain.writings import alike, free_names, is_writing, layers_of, read_writing, signs_of, writing_text

ITSELF, NAMED = read_writing("of n n"), "abcdefgh"


def weight(table):
    return sum(1 + share + sum(powers) for terms in table.rows for powers, share in terms)


def heavy(draw, many, most):
    """A table of at most this weight, often of just this one."""
    rows = [{} for _ in choices(many)]
    left = most
    while left >= 2 and draw.random() < 0.95:
        at = draw.choice([len(rows) - 1, draw.randrange(len(rows))])
        share = draw.choice([1, 1, 2, draw.randrange(1, left)])
        share = min(share, left - 1)
        room = left - 1 - share
        powers = []
        for sign in choices(many)[at]:
            powers.append(min(room, draw.choice([0, 1, 2, room, draw.randrange(room + 1)])) * sign)
            room -= powers[-1]
        if tuple(powers) not in rows[at]:
            rows[at][tuple(powers)] = share
            left -= 1 + share + sum(powers)
    return Table(many, [tuple(sorted(row.items())) for row in rows])


class Made(Cases):
    def check(self, table):
        writing = made_writing(table)
        self.assertTrue(is_writing(writing) and is_all_tuples(writing))
        self.answers([free_names(writing), reckons(writing, table.many)], [(), True])
        self.assertTrue(signs_of(writing) <= 200 and layers_of(writing) <= 50)
        # TooMany is raised for more than so many signs or layers on the way.
        self.assertLessEqual(plain(writing, 500).steps, 500)
        self.assertEqual(table_of(writing, table.many), table)
        self.assertEqual(made_writing(Table(table.many, listed(table.rows))), writing)
        return writing

    def test_drawn(self):
        draw = random.Random(171)
        weights = []
        for many in range(4):
            for _ in range(150):
                table = heavy(draw, many, draw.choice([30, 30, 10, draw.randrange(31)]))
                weights.append(weight(table))
                self.check(table)
        self.assertGreater(weights.count(30), 50)
        self.assertLessEqual(max(weights), 30)

    def test_all_choices_alike_and_unlike(self):
        for many in range(4):
            powers = (0,) * many
            self.check(constant(many, 0))
            self.check(constant(many, 1))
            self.check(Table(many, [[(powers, at % 3 + 1)] for at in range(2 ** many)]))
            for place in range(many):
                self.check(place_table(many, place))
            for choice in choices(many):
                self.check(Table(many, row_at(many, choice, [(powers, 2)])))
                self.check(Table(many, row_at(many, choice, [(tuple(3 * sign for sign in choice), 2)])))

    def test_the_longest(self):
        for many in (1, 2, 3):
            choice = (1,) * many
            for share in range(1, 30):
                for place in range(many):
                    powers = tuple((29 - share) * (at == place) for at in range(many))
                    self.check(Table(many, row_at(many, choice, [(powers, share)])))
        for terms in (
            [((power,), 1) for power in range(6)], [((0,), 10), ((1,), 5), ((9,), 2)], [((0,), 13), ((14,), 1)],
            [((0,), 1), ((24,), 3)], [((1,), 1), ((2,), 1), ((18,), 3)],
        ):
            table = Table(1, [(), terms])
            self.assertLessEqual(weight(table), 30)
            self.check(table)

    def test_may_be_passed_on(self):
        draw = random.Random(173)
        for many in range(4):
            for _ in range(4):
                table = heavy(draw, many, 30)
                writing = self.check(table)
                for place in places_of(writing):
                    paper = kind_of(part_at(writing, place))
                    for kind in [paper.kind] + [kind for _, kind in paper.free]:
                        self.assertLessEqual(len(kind_text(kind).split(" ")), 500)
                    plain(part_at(writing, place), 500)

    def test_what_do_comes_to(self):
        draw = random.Random(175)
        for many in range(4):
            for _ in range(15):
                table = heavy(draw, many, 9)
                writing = made_writing(table)
                for numbers in rows_to(2, many):
                    if told(table, numbers) <= 40:
                        self.answers(do(writing, numbers), told(table, numbers))
                    self.answers(reckoned(writing, numbers), told(table, numbers))

    def test_weight(self):
        for table in (
            constant(0, 29), Table(1, [[], [((28,), 1)]]), Table(1, [[], [((1,), 28)]]), Table(1, [[], [((0,), 29)]]),
            Table(2, [[((0, 0), 14)], [], [((1, 0), 3), ((2, 0), 7)], []]),
            Table(3, [[((0, 0, 0), 1)]] * 6 + [[((0, 0, 0), 3)], [((1, 2, 8), 2)]]),
            Table(3, [[]] * 7 + [[((0, 0, 0), 1), ((9, 8, 9), 1)]]),
        ):
            self.assertEqual(weight(table), 30)
            self.check(table)
            for choice in choices(table.many):
                more = Table(table.many, row_at(table.many, choice, [((0,) * table.many, 1)]))
                self.refuses(TooMany, ["weight", 30], made_writing, table.plus(more))
        for share in (30, 31, 10 ** 60):
            self.refuses(TooMany, ["weight", 30], made_writing, constant(0, share))
        for rows in (
            [[((0,), 30)], []], [[], [((28,), 2)]], [[], [((29,), 1)]], [[], [((0,), 14), ((14,), 1)]],
            [[((0,), 14)], [((0,), 15)]], [[], [((0,), 1), ((60,), 1)]],
        ):
            self.assertGreaterEqual(weight(Table(1, rows)), 31)
            self.refuses(TooMany, ["weight", 30], made_writing, Table(1, rows))
        self.assertEqual(weight(Table(1, [[], [((0,), 14), ((14,), 1)]])), 31)
        self.assertEqual(weight(Table(1, [[], [((0,), 13), ((14,), 1)]])), 30)

    def test_refused(self):
        for value in NO_TABLES + [OtherTable(0, [[]])]:
            self.refuses(BadTable, ["table"], made_writing, value)
        self.answers(do(made_writing(table=constant(1, 3)), [5]), 3)


def is_all_tuples(writing):
    """Whether all of a writing is in tuples."""
    if isinstance(writing, str):
        return True
    return isinstance(writing, tuple) and all(is_all_tuples(part) for part in writing)


def together(writing, writings, many):
    """The text of the writing put together, as the document tells it."""
    names = [f"q{number}" for number in range(many)]
    text = "".join(f"of {name} " for name in names) + "to " * len(writings) + writing_text(writing)
    for other in writings:
        text += " " + "to " * many + " ".join([writing_text(other)] + names)
    return read_writing(text)


def padded(writing, signs):
    """The writing with so many signs more, at least four, that are thrown away."""
    while signs > 0:
        more = signs if signs < 40 else 30
        writing = ("to", ("of", "x", writing), tower(more - 2))
        signs -= more
    return writing


# A writing of one number with as many signs as a writing that is passed may have.
FULL = padded(ITSELF, 198)


class PutTogether(Cases):
    def check(self, writing, writings, many):
        new = put_together(writing, writings, many)
        self.assertTrue(is_all_tuples(new) and is_writing(new))
        self.assertTrue(alike(new, together(writing, writings, many)))
        self.answers([free_names(new), reckons(new, many)], [(), True])
        tables = [table_of(other, many) for other in writings]
        self.assertEqual(table_of(new, many), table_of(writing, len(writings)).put_in(tables, many))
        for one, others in ((listed(writing), listed(writings)), (mixed(writing), tuple(map(mixed, writings)))):
            self.assertEqual(put_together(one, others, many), new)
        return new

    def test_drawn(self):
        draw = random.Random(177)
        for count, many in itertools.product(range(4), repeat=2):
            done = 0
            while done < 5:
                writing = dressed(draw, drawn_reckoning(draw, count, 6)[0], 1)
                writings = [dressed(draw, drawn_reckoning(draw, many, 5)[0], 1) for _ in range(count)]
                size = signs_of(together(writing, writings, many))
                if size > 200:
                    self.refuses(TooMany, ["signs", 200], put_together, writing, writings, many)
                    continue
                new = self.check(writing, writings, many)
                for numbers in rows_to(2, many):
                    inner = [reckoned(other, numbers) for other in writings]
                    self.answers(reckoned(new, numbers), reckoned(writing, inner))
                done += 1

    def test_told_ones(self):
        plus, product = sum_writing(), product_writing()
        square = self.check(product, [plus, plus], 2)
        for numbers in rows_to(3, 2):
            self.answers(do(square, numbers), sum(numbers) ** 2)
        self.check(plus, [number_writing(3), number_writing(4)], 0)
        self.check(plus, [ITSELF, ITSELF], 1)
        self.check(ITSELF, [chosen_writing()], 3)
        self.check(chosen_writing(), [plus, product, read_writing("of n of m n")], 2)
        for many in range(4):
            new = self.check(number_writing(5), [], many)
            self.assertTrue(alike(new, read_writing("".join(f"of {name} " for name in NAMED[:many])
                                                    + writing_text(number_writing(5)))))
        # Names of the writings that are those that the whole may have taken.
        for name, other in itertools.product("abcnmx", repeat=2):
            inner = read_writing(f"of {name} of {other} of f to {other} f")
            self.check(inner, [inner, inner], 2)

    def test_put_together_again(self):
        new = put_together(product_writing(), [ITSELF, ITSELF], 1)
        twice = self.check(sum_writing(), [new, new], 1)
        self.answers([do(new, [5]), do(twice, [5])], [25, 50])

    def test_just_the_signs(self):
        for many, count in itertools.product((1, 2, 3), repeat=2):
            writing = read_writing(" ".join(f"of {name}" for name in NAMED[:count]) + " a")
            inner = read_writing(" ".join(f"of {name}" for name in NAMED[:many]) + " a")
            left = 200 - signs_of(together(writing, [inner] * count, many))
            for at in range(count):
                just, above = [
                    [padded(inner, more) if where == at else inner for where in range(count)]
                    for more in (left, left + 1)
                ]
                self.assertEqual(signs_of(self.check(writing, just, many)), 200)
                self.refuses(TooMany, ["signs", 200], put_together, writing, above, many)
            self.assertEqual(signs_of(self.check(padded(writing, left), [inner] * count, many)), 200)
            self.refuses(TooMany, ["signs", 200], put_together, padded(writing, left + 1), [inner] * count, many)

    def test_refused(self):
        plus, wrong = sum_writing(), read_writing("of n to n n")
        for value in NO_WRITINGS:
            self.refuses(BadWriting, ["writing"], put_together, value, [], 0)
            self.refuses(BadWriting, ["writing"], put_together, value, value, None)
            self.refuses(BadWriting, ["writings"], put_together, plus, [value, ITSELF], 1)
            self.refuses(BadWriting, ["writings"], put_together, "x", (ITSELF, value), None)
        for value in (
            None, True, 0, "x", "of n n", {}, {0: ITSELF}, {"x"}, object(), ITSELF, ("to", "x", "y"), [ITSELF] * 4,
            ("x",) * 4, [None],
        ):
            self.refuses(BadWriting, ["writings"], put_together, plus, value, 1)
            self.refuses(BadWriting, ["writings"], put_together, "x", value, None)
        for many in NO_MANY:
            for writing, writings in ((plus, [ITSELF, ITSELF]), ("x", []), (wrong, [wrong]), (plus, [])):
                self.refuses(BadNumber, ["many"], put_together, writing, writings, many)
        for text in FREE:
            free = read_writing(text)
            for others in ([], [ITSELF], [wrong, wrong], [plus] * 3):
                self.refuses(Misfit, ["free"], put_together, free, others, 1)
            for writing, others in (
                (plus, [free, ITSELF]), (plus, [ITSELF, free]), (wrong, [wrong, free]), (plus, [free]),
                (plus, ["x"] * 3), (FULL, [free]),
            ):
                self.refuses(Misfit, ["free"], put_together, writing, others, 1)
        for writing, others, many in (
            (plus, [ITSELF], 1), (plus, [ITSELF] * 3, 1), (plus, [], 0), (ITSELF, [ITSELF], 2),
            (plus, [ITSELF, plus], 1), (plus, [plus, plus], 1), (wrong, [ITSELF], 1), (ITSELF, [wrong], 1),
            (FULL, [plus], 1),
            (number_writing(3), [ITSELF] * 2, 1), (plus, [ITSELF, ITSELF], 3),
        ):
            self.refuses(Misfit, ["kind"], put_together, writing, others, many)
        for text, fitting in KINDS:
            for count in range(4):
                if count not in fitting:
                    self.refuses(Misfit, ["kind"], put_together, read_writing(text), [ITSELF] * count, 1)
                    self.refuses(Misfit, ["kind"], put_together, ITSELF, [read_writing(text)], count)
        self.refuses(TooMany, ["signs", 200], put_together, FULL, [ITSELF], 1)
        new = put_together(many=1, writings=(ITSELF,), writing=ITSELF)
        self.assertTrue(alike(new, read_writing("of n to of n n to of n n n")))

    def test_great_powers(self):
        """Nothing is reckoned, so that no power is too great."""
        above = to_the_power(61)
        new = put_together(above, [ITSELF], 1)
        self.refuses(TooMany, ["power", 60], table_of, new, 1)


if __name__ == "__main__":
    unittest.main()
