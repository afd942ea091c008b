import itertools
import random
import unittest

from drawn_tables import (
    GREAT, NO_MANY, NO_TABLES, OtherTable, choices, drawn_table, drawn_tables, in_tuples, row_at, rows_to, told,
)
from helpers import Cases, listed, mixed

from timesagain.errors import BadNumber, BadTable, Misfit, TooMany
from timesagain.tables import Table, chosen, constant, greatest_power, place_table

NO_TWO_NUMBERS = [
    None, True, 0, 12, "", "12", b"12", {}, {0: 1, 1: 2}, {0, 1}, range(2), (), [1], (1, 2, 3), [True, 1], (1, False),
    [-1, 1], (1, -1), [1.0, 1], ["1", 1], [None, 1], [[1], 1], ((1, 2),), object(),
]


def one_term(many, choice, powers, share=1):
    return Table(many, row_at(many, choice, [(powers, share)]))


def letters(many, count, place=0):
    """So many terms in one letter, x + x x + .., where no number is nought."""
    terms = [(tuple(power * (at == place) for at in range(many)), 1) for power in range(count)]
    return row_at(many, (1,) * many, terms)


def square_of(side, other):
    """Terms x ** i y ** j for i below side, j below other."""
    return [((one, two), 1) for one in range(side) for two in range(other)]


class Making(Cases):
    def test_right_ones(self):
        draw = random.Random(101)
        for many in range(4):
            for table in drawn_tables(draw, many, 20, power=60, share=10 ** 60):
                for rows in (table.rows, listed(table.rows), mixed(table.rows), mixed(table.rows, 1)):
                    made = Table(many, rows)
                    self.answers([made.many, made.rows], [many, table.rows])
                    self.assertTrue(in_tuples(made.rows))
                    self.assertTrue(made == table and not made != table)
        self.answers(Table(rows=[[]], many=0).rows, ((),))

    def test_what_is_passed_is_copied(self):
        rows = [[], [[[1], 2]]]
        table = Table(1, rows)
        rows[1][0][0][0] = 5
        rows[0].append([[0], 1])
        rows.append([])
        self.answers(table.rows, ((), (((1,), 2),)))

    def test_refused_many(self):
        for many in NO_MANY:
            self.refuses(BadNumber, ["many"], Table, many, ((), ()))
            self.refuses(BadNumber, ["many"], Table, many, None)

    def test_refused_rows(self):
        for rows in (
            None, True, 0, "", "ab", {}, {0: (), 1: ()}, {1}, range(2), object(), (), [()], [(), (), ()], ["", ""],
            ((), None), ((), 1), (None, ()), ((), {}), ((), ((1, 1),)), ((), (((1,),),)), ((), (((1,), 1, 1),)),
            ((((1,), 1),), ()), ((), (((-1,), 1),)), ((), (((61,), 1),)), ((), (((1,), 0),)), ((), (((1,), -1),)),
            ((), (((1,), True),)), ((), (((True,), 1),)), ((), (((1, 0), 1),)), ((), ((("1",), 1),)),
            ((), (((2,), 1), ((1,), 1))), ((), (((1,), 1), ((1,), 1))), ((), (((1,), 1.0),)), ((), ("ab",)),
        ):
            self.refuses(BadTable, ["rows"], Table, 1, rows)
        for many in range(4):
            for count in range(10):
                if count != 2 ** many:
                    self.refuses(BadTable, ["rows"], Table, many, ((),) * count)
        for many in (1, 2, 3):
            for choice, other in itertools.product(choices(many), repeat=2):
                rows = row_at(many, choice, [(other, 1)])
                if all(sign or not power for sign, power in zip(choice, other)):
                    self.answers(Table(many, rows).rows, rows)
                else:
                    self.refuses(BadTable, ["rows"], Table, many, rows)

    def test_just_the_greatest_power(self):
        for many in (1, 2, 3):
            for place in range(many):
                powers = tuple(60 * (at == place) for at in range(many))
                self.assertEqual(one_term(many, (1,) * many, powers).at((1,) * many), 1)
                above = tuple(power + power // 60 for power in powers)
                self.refuses(BadTable, ["rows"], Table, many, row_at(many, (1,) * many, [(above, 1)]))

    def test_equality(self):
        tables = [
            Table(0, [()]), Table(0, [[((), 1)]]), Table(1, [(), ()]), Table(1, [[((0,), 1)], ()]),
            Table(1, [(), [((0,), 1)]]), Table(1, [(), [((1,), 1)]]), Table(1, [(), [((1,), 2)]]), Table(2, [()] * 4),
        ]
        for at, table in enumerate(tables):
            for where, other in enumerate(tables):
                self.answers([table == other, table != other], [at == where, at != where])
            for value in NO_TABLES + [OtherTable(table.many, table.rows)]:
                self.answers([table == value, value == table, table != value], [False, False, True])


class At(Cases):
    def test_drawn(self):
        draw = random.Random(103)
        for many in range(4):
            for table in drawn_tables(draw, many, 15, count=6, power=9, share=20):
                for numbers in rows_to(3, many):
                    self.answers(table.at(numbers), told(table, numbers))
                    self.answers(table.at(list(numbers)), told(table, numbers))

    def test_great_numbers(self):
        draw = random.Random(104)
        for many in range(1, 4):
            for table in drawn_tables(draw, many, 4, count=8, power=60, share=10 ** 60):
                for choice in choices(many):
                    numbers = [draw.randrange(GREAT // 10, GREAT) * sign for sign in choice]
                    self.assertEqual(table.at(numbers), told(table, numbers))
        self.assertEqual(one_term(1, (1,), (60,), 7).at([GREAT]), 7 * GREAT ** 60)
        self.answers(Table(0, [[((), GREAT)]]).at([]), GREAT)

    def test_each_choice(self):
        for many in range(4):
            table = Table(many, [[((0,) * many, at + 1)] for at in range(2 ** many)])
            for at, choice in enumerate(choices(many)):
                self.answers(table.at([3 * sign for sign in choice]), at + 1)

    def test_refused(self):
        table = drawn_table(random.Random(105), 2)
        for numbers in NO_TWO_NUMBERS:
            self.refuses(BadNumber, ["numbers"], table.at, numbers)
        for many in range(4):
            for count in range(6):
                if count != many:
                    self.refuses(BadNumber, ["numbers"], constant(many, 1).at, (1,) * count)
        self.answers(table.at(numbers=[0, 0]), told(table, (0, 0)))


class PlusAndTimes(Cases):
    def test_drawn(self):
        draw = random.Random(107)
        for many in range(4):
            for _ in range(15):
                one, other = drawn_table(draw, many), drawn_table(draw, many)
                both, product = one.plus(other), one.times(other)
                for numbers in rows_to(3, many):
                    first, second = told(one, numbers), told(other, numbers)
                    self.assertEqual([told(both, numbers), told(product, numbers)], [first + second, first * second])
                for table in (both, product):
                    self.assertTrue(in_tuples(table.rows))
                    self.assertEqual(Table(many, table.rows), table)
                self.assertEqual([both, product], [other.plus(one), other.times(one)])
                self.assertEqual([one.plus(constant(many, 0)), one.times(constant(many, 1))], [one, one])
                self.assertEqual(one.times(constant(many, 0)), constant(many, 0))

    def test_terms_with_the_same_powers_are_one(self):
        first, second = place_table(2, 0), place_table(2, 1)
        one = first.plus(second)
        self.answers(one.plus(one).rows[3], (((0, 1), 2), ((1, 0), 2)))
        self.answers(one.times(one).rows[3], (((0, 2), 1), ((1, 1), 2), ((2, 0), 1)))
        self.answers(one.times(one).rows[1], (((0, 2), 1),))

    def test_great_shares(self):
        table = constant(1, GREAT)
        self.assertEqual(table.times(table).rows, ((((0,), GREAT * GREAT),),) * 2)
        self.assertEqual(table.plus(table).rows, ((((0,), 2 * GREAT),),) * 2)

    def test_just_the_powers(self):
        for many in (1, 2, 3):
            for place in range(many):
                def of_power(power):
                    return one_term(many, (1,) * many, tuple(power * (at == place) for at in range(many)))
                for power in (0, 1, 30, 60):
                    self.assertEqual(of_power(power).times(of_power(60 - power)), of_power(60))
                    if power:
                        self.refuses(TooMany, ["power", 60], of_power(power).times, of_power(61 - power))
        # One letter's powers do not count for another one.
        one, other = one_term(2, (1, 1), (60, 0)), one_term(2, (1, 1), (0, 60))
        self.answers(one.times(other).rows[3], (((60, 60), 1),))
        self.refuses(TooMany, ["power", 60], one.times, one)
        # Nor does a polynomial that is multiplied by none.
        self.assertEqual(one.times(one_term(2, (1, 0), (60, 0))), constant(2, 0))

    def test_just_the_products(self):
        wide, narrow = Table(2, row_at(2, (1, 1), square_of(20, 10))), Table(2, row_at(2, (1, 1), square_of(10, 10)))
        self.assertEqual(wide.times(narrow).at([1, 1]), 20000)
        one, other = square_of(59, 3), square_of(2, 57)[:113]
        self.assertEqual(len(one) * len(other), 20001)
        for first, second in ((one, other), (other, one)):
            tables = [Table(2, row_at(2, (1, 1), terms)) for terms in (first, second)]
            self.refuses(TooMany, ["products", 20000], tables[0].times, tables[1])
        # Of one choice 20,000, of another one likewise: that is not too many.
        both = wide.plus(Table(2, row_at(2, (1, 0), [((power, 0), 1) for power in range(30)])))
        self.assertEqual(both.times(narrow.plus(narrow)).at([1, 1]), 40000)

    def test_products_ahead_of_powers(self):
        terms = [((60, power), 1) for power in range(61)] + [((59, power), 1) for power in range(61)]
        many = Table(2, row_at(2, (1, 1), sorted(terms)))
        more = Table(2, row_at(2, (1, 1), square_of(41, 4)))
        self.assertGreater(122 * 164, 20000)
        self.refuses(TooMany, ["products", 20000], many.times, more)
        self.refuses(TooMany, ["power", 60], many.times, place_table(2, 0))
        # A power too great at an earlier choice does not come ahead, either.
        early = many.plus(one_term(2, (1, 0), (60, 0)))
        self.refuses(TooMany, ["products", 20000], early.times, more.plus(one_term(2, (1, 0), (60, 0))))

    def test_refused(self):
        for many in range(4):
            table = constant(many, 1)
            for value in NO_TABLES + [OtherTable(many, table.rows)]:
                self.refuses(BadTable, ["other"], table.plus, value)
                self.refuses(BadTable, ["other"], table.times, value)
            for other in range(4):
                if other != many:
                    self.refuses(Misfit, ["many"], table.plus, constant(other, 1))
                    self.refuses(Misfit, ["many"], table.times, constant(other, 1))
        wide = Table(2, row_at(2, (1, 1), square_of(61, 4)))
        self.refuses(Misfit, ["many"], wide.times, constant(1, 1))
        self.answers([constant(0, 2).plus(other=constant(0, 3)).rows, constant(0, 2).times(other=constant(0, 3)).rows],
                     [((((), 5),),), ((((), 6),),)])

    def test_nothing_changes(self):
        draw = random.Random(109)
        for many in range(4):
            one, other = drawn_table(draw, many), drawn_table(draw, many)
            before = [one.rows, other.rows]
            one.plus(other), one.times(other), one.plus(one), one.times(one)
            self.assertEqual([one.rows, other.rows], before)


class PutIn(Cases):
    def test_drawn(self):
        draw = random.Random(111)
        for outer, many in itertools.product(range(4), repeat=2):
            for _ in range(6):
                table = drawn_table(draw, outer, count=3, power=2)
                tables = drawn_tables(draw, many, outer, count=2, power=2, share=2)
                new = table.put_in(tables, many)
                self.answers(new.many, many)
                self.assertTrue(in_tuples(new.rows))
                self.assertEqual(Table(many, new.rows), new)
                self.assertEqual(table.put_in(tuple(tables), many), new)
                for numbers in rows_to(2, many):
                    inner = [told(one, numbers) for one in tables]
                    self.assertEqual(told(new, numbers), told(table, inner))

    def test_its_own_letters(self):
        draw = random.Random(113)
        for many in range(4):
            for table in drawn_tables(draw, many, 5):
                own = [place_table(many, place) for place in range(many)]
                self.assertEqual(table.put_in(own, many), table)

    def test_numbers(self):
        draw = random.Random(115)
        for many in range(4):
            for table in drawn_tables(draw, many, 5):
                for numbers in rows_to(2, many):
                    tables = [constant(0, number) for number in numbers]
                    self.assertEqual(table.put_in(tables, 0), constant(0, told(table, numbers)))
                    tables = [constant(2, number) for number in numbers]
                    self.assertEqual(table.put_in(tables, 2), constant(2, told(table, numbers)))

    def test_noughts(self):
        """What is put in is nought in one choice and not in another one."""
        table = Table(1, [[((0,), 7)], [((1,), 1)]])
        inner = Table(2, row_at(2, (1, 0), [((2, 0), 3)]))
        self.answers(table.put_in([inner], 2).rows, (
            (((0, 0), 7),), (((0, 0), 7),), (((2, 0), 3),), (((0, 0), 7),),
        ))
        # A nought that the one asks for nothing but a constant.
        three = constant(2, 3)
        self.assertEqual(three.put_in([inner, inner], 2), three)

    def check_products(self, terms, counts, products):
        """Polynomials of so many terms are put in where all numbers are above nought, which makes so many products."""
        outer = len(counts)
        made = 0
        for powers, _ in terms:
            count = 1
            for power, number in zip(powers, counts):
                count *= number ** power
            made += count
        self.assertEqual(made, products)
        table = Table(outer, row_at(outer, (1,) * outer, sorted(terms)))
        tables = [Table(2, row_at(2, (1, 1), square_of(number // 10 + 1, 10)[:number])) for number in counts]
        if products <= 20000:
            self.assertEqual(table.put_in(tables, 2).at([1, 1]), told(table, counts))
        else:
            self.refuses(TooMany, ["products", 20000], table.put_in, tables, 2)

    def test_just_the_products(self):
        self.check_products([((1, 1), 9)], (200, 100), 20000)
        self.check_products([((0, 0), 9), ((1, 1), 9)], (200, 100), 20001)
        self.check_products([((2, 0), 1), ((0, 1), 3)], (141, 119), 20000)
        self.check_products([((2, 0), 1), ((0, 1), 3)], (141, 120), 20001)
        self.check_products([((0, 0, 0), 5), ((1, 1, 1), 1), ((0, 0, 2), 2)], (33, 20, 30), 20701)
        self.check_products([((0, 0, 0), 5), ((1, 1, 1), 1), ((0, 0, 2), 2)], (20, 33, 29), 19982)
        self.check_products([((0, 0, 0), 5), ((0, 1, 0), 5), ((1, 1, 1), 1)], (13, 19, 80), 19780)
        self.check_products([((3,), 1), ((2,), 1), ((1,), 1)], (26,), 18278)
        self.check_products([((3,), 1), ((2,), 1), ((1,), 1)], (27,), 20439)
        two = Table(1, [(), [((0,), 1), ((1,), 1)]])
        self.assertEqual(one_term(1, (1,), (14,)).put_in([two], 1).at([1]), 2 ** 14)
        self.refuses(TooMany, ["products", 20000], one_term(1, (1,), (15,)).put_in, [two], 1)

    def test_products_of_one_choice(self):
        """Those of unlike choices are not added up."""
        table = Table(2, row_at(2, (1, 1), [((1, 1), 1)]))
        inner = [Table(3, row_at(3, (1, 1, 0), self.wide(0))).plus(Table(3, row_at(3, (1, 1, 1), self.wide(0))))] * 2
        self.assertEqual(len(self.wide(0)) ** 2, 19881)
        self.assertEqual(table.put_in(inner, 3).at([1, 1, 0]), 19881)
        self.assertEqual(table.put_in(inner, 3).at([1, 1, 1]), 19881)

    def wide(self, power):
        return [((one, two, power), 1) for one, two in itertools.product(range(12), repeat=2)][:141]

    def test_just_the_powers(self):
        for power, inner in ((1, 60), (2, 30), (60, 1), (12, 5)):
            table = one_term(1, (1,), (power,), 2)
            self.answers(table.put_in([one_term(1, (1,), (inner,))], 1).rows, ((), (((60,), 2),)))
        for power, inner in ((1, 60), (60, 1), (20, 3)):
            table = one_term(2, (1, 1), (power, 1))
            one, other = one_term(1, (1,), (inner,)), one_term(1, (1,), (1,))
            self.refuses(TooMany, ["power", 60], table.put_in, [one, other], 1)
            self.answers(table.put_in([one, constant(1, 4)], 1).rows, ((), (((60,), 4),)))
        self.refuses(TooMany, ["power", 60], one_term(1, (1,), (60,)).put_in, [one_term(1, (1,), (60,))], 1)
        # A polynomial that nothing uses may be as it likes.
        table = Table(1, [[((0,), 1)], [((60,), 1)]])
        self.assertEqual(table.put_in([constant(1, 0)], 1), constant(1, 1))

    def test_products_ahead_of_powers(self):
        table = one_term(2, (1, 1), (15, 61 - 2))
        inner = [Table(2, letters(2, 2)), one_term(2, (1, 1), (0, 2))]
        self.refuses(TooMany, ["products", 20000], table.put_in, inner, 2)
        self.refuses(TooMany, ["power", 60], table.put_in, [inner[1], inner[1]], 2)
        early = table.plus(one_term(2, (1, 0), (60, 0)))
        inner = [inner[0].plus(one_term(2, (0, 1), (0, 2))), inner[1]]
        self.refuses(TooMany, ["products", 20000], early.put_in, inner, 2)

    def test_refused(self):
        table = drawn_table(random.Random(117), 2)
        good = [constant(1, 1), constant(1, 2)]
        for value in NO_TABLES:
            for tables in ([value, good[0]], (good[0], value), [value]):
                self.refuses(BadTable, ["tables"], table.put_in, tables, 1)
                self.refuses(BadTable, ["tables"], table.put_in, tables, None)
            if value not in ((), []):
                self.refuses(BadTable, ["tables"], table.put_in, value, 1)
        self.refuses(BadTable, ["tables"], table.put_in, {0: good[0], 1: good[1]}, 1)
        self.refuses(BadTable, ["tables"], table.put_in, [OtherTable(1, [(), ()])] * 2, 1)
        self.refuses(BadTable, ["tables"], table.put_in, constant(0, 1), 1)
        for many in NO_MANY:
            self.refuses(BadNumber, ["many"], table.put_in, good, many)
            self.refuses(BadNumber, ["many"], table.put_in, [], many)
            self.refuses(BadNumber, ["many"], table.put_in, [constant(2, 1)], many)
        for tables in ([], good[:1], good + good[:1], [constant(3, 1)]):
            self.refuses(Misfit, ["tables"], table.put_in, tables, 1)
        for tables in ([constant(2, 1), good[0]], [good[0], constant(0, 1)], [constant(3, 1)] * 2):
            self.refuses(Misfit, ["many"], table.put_in, tables, 1)
        self.refuses(Misfit, ["many"], one_term(1, (1,), (60,)).put_in, [one_term(1, (1,), (60,))], 2)
        self.assertEqual(table.put_in(many=1, tables=good), constant(1, told(table, (1, 2))))


class Others(Cases):
    def test_constant(self):
        for many in range(4):
            for number in (0, 1, 7, GREAT):
                table = constant(many, number)
                self.answers(table.many, many)
                self.answers(table.rows, ((((0,) * many, number),),) * 2 ** many if number else ((),) * 2 ** many)
                for numbers in rows_to(2, many):
                    self.answers(table.at(numbers), number)
        for many in NO_MANY:
            self.refuses(BadNumber, ["many"], constant, many, 1)
            self.refuses(BadNumber, ["many"], constant, many, None)
        for number in (None, True, False, -1, "1", 1.0, (1,), [1], {}):
            self.refuses(BadNumber, ["number"], constant, 1, number)
        self.assertEqual(constant(number=0, many=1), Table(1, [(), ()]))

    def test_place_table(self):
        for many in range(4):
            for place in range(many):
                table = place_table(many, place)
                for numbers in rows_to(3, many):
                    self.answers(table.at(numbers), numbers[place])
                self.assertEqual(Table(many, table.rows), table)
            for place in (None, True, False, -1, many, many + 1, 10 ** 30, "0", 0.0, (0,), [0], {}):
                self.refuses(BadNumber, ["place"], place_table, many, place)
        for many in NO_MANY:
            self.refuses(BadNumber, ["many"], place_table, many, 0)
            self.refuses(BadNumber, ["many"], place_table, many, None)
        self.assertEqual(place_table(place=0, many=1), Table(1, [(), [((1,), 1)]]))

    def test_chosen(self):
        draw = random.Random(119)
        for many in range(1, 4):
            for place in range(many):
                one, other = drawn_table(draw, many), drawn_table(draw, many)
                table = chosen(place, one, other)
                self.assertEqual(Table(many, table.rows), table)
                for numbers in rows_to(2, many):
                    self.answers(table.at(numbers), told(other if numbers[place] else one, numbers))
                self.assertEqual(chosen(place, one, one), one)

    def test_chosen_refused(self):
        table = constant(2, 1)
        for place in (None, True, False, -1, "0", 0.0, (0,), [0], {}):
            self.refuses(BadNumber, ["place"], chosen, place, table, table)
            self.refuses(BadNumber, ["place"], chosen, place, None, None)
        for value in NO_TABLES + [OtherTable(2, table.rows)]:
            self.refuses(BadTable, ["one"], chosen, 0, value, table)
            self.refuses(BadTable, ["one"], chosen, 9, value, value)
            self.refuses(BadTable, ["other"], chosen, 0, table, value)
            self.refuses(BadTable, ["other"], chosen, 9, table, value)
        for many, other in itertools.permutations(range(4), 2):
            for place in (0, 3, 10 ** 30):
                self.refuses(Misfit, ["many"], chosen, place, constant(many, 1), constant(other, 1))
        for many in range(4):
            for place in (many, many + 1, 10 ** 30):
                self.refuses(Misfit, ["place"], chosen, place, constant(many, 1), constant(many, 2))
        self.assertEqual(chosen(other=table, one=constant(2, 0), place=0).rows[2:], table.rows[2:])

    def test_greatest_power(self):
        draw = random.Random(121)
        for many in range(4):
            self.answers(greatest_power(constant(many, 0)), 0)
            self.answers(greatest_power(constant(many, 5)), 0)
            for table in drawn_tables(draw, many, 20, power=60):
                powers = [power for terms in table.rows for row, _ in terms for power in row]
                self.answers(greatest_power(table), max(powers + [0]))
        for choice in choices(3)[1:]:
            for place in range(3):
                if choice[place]:
                    powers = tuple(60 * (at == place) for at in range(3))
                    self.answers(greatest_power(one_term(3, choice, powers)), 60)
        for value in NO_TABLES:
            self.refuses(BadTable, ["table"], greatest_power, value)
        self.answers(greatest_power(table=place_table(1, 0)), 1)


if __name__ == "__main__":
    unittest.main()
