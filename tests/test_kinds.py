import itertools
import random
import unittest

import reference
from helpers import NO_WRITINGS, Cases, chain, listed, many_drawn, mixed, spread, tower

from timesagain.errors import BadKind, BadNumber, BadText, BadWriting, Misfit
from timesagain.kinds import (
    Kinded, Kindless, is_instance, is_kind, joined, kind_of, kind_text, number_kind, read_kind, reckoning_kind, reckons,
)
from timesagain.papers import Denial, Paper
from timesagain.writings import layers_of, put, read_writing, signs_of

N = (("o", "o"), ("o", "o"))
GREAT = 10 ** 60 - 1
NO_KINDS = [
    None, True, False, -1, 0.0, 1.5, "", "O", "0", "oo", "o o", ">", b"o", {}, {"o"}, object(), (), [], ("o",), [0],
    ("o", "o", "o"), (0, 1, 2), ("o", None), (True, "o"), ("o", False), (0, -1), ("o", ("o",)), ((), "o"), (["o"], "o"),
    ("o", ("o", "x")), "oo", ("of", "o"), [["o", "o"], "0"],
]
KINDS = [
    "o", 0, 7, 10 ** 59, ("o", "o"), (0, 0), (1, 0), (("o", 3), (3, "o")), N, ((0, 1), (0, 1)), (5, (5, 5)),
    ("o", ("o", ("o", 2))), (((0, 1), 2), 3),
]
NO_MANY = [None, True, False, -1, 4, 10 ** 30, "1", 1.0, (1,), [0], {}]


def drawn_kind(draw, items, names=3):
    """A kind with at most so many items."""
    if items < 3 or draw.random() < 0.15:
        return draw.choice(["o", *range(names)])
    first = draw.randrange(1, items - 1)
    return (drawn_kind(draw, first, names), drawn_kind(draw, items - 1 - first, names))


def text_of(kind):
    return str(kind) if not isinstance(kind, tuple) else " ".join([">", text_of(kind[0]), text_of(kind[1])])


def renumbered(kind):
    return reference.numbered([reference.named_kind(kind, "")])[0]


class IsKind(Cases):
    def test_kinds(self):
        draw = random.Random(1)
        for kind in KINDS + [drawn_kind(draw, 15) for _ in range(100)] + [GREAT, (GREAT, "o")]:
            for value in (kind, listed(kind), mixed(kind)):
                self.answers(is_kind(value), True)

    def test_no_kinds(self):
        for value in NO_KINDS:
            with self.subTest(value=value):
                self.answers(is_kind(value), False)
                for kind in (("o", value), [value, 0], ((0, value), 0), (0, [0, (value, 0)])):
                    self.answers(is_kind(kind), False)

    def test_refused(self):
        for value in NO_KINDS + [("o", [0, None])]:
            self.refuses(BadKind, ["kind"], kind_text, value)
            self.refuses(BadKind, ["kind"], is_instance, value, 0)
            self.refuses(BadKind, ["general"], is_instance, 0, value)
            self.refuses(BadKind, ["kind"], is_instance, value, value)
            self.refuses(BadKind, ["one"], joined, value, 0)
            self.refuses(BadKind, ["other"], joined, 0, value)
            self.refuses(BadKind, ["one"], joined, value, value)

    def test_by_name(self):
        self.answers([is_kind(value="o"), kind_text(kind=[0, 1]), read_kind(text="o")], [True, "> 0 1", "o"])
        self.answers([is_instance(general=0, kind="o"), joined(other=0, one="o")], [True, "o"])
        self.answers([reckoning_kind(many=0), reckons(many=0, writing=("of", "x", "x"))], [N, True])
        self.answers(kind_of(writing="x").parts, (0, (("x", 0),)))


class Texts(Cases):
    def test_written_and_read_back(self):
        draw = random.Random(2)
        for kind in KINDS + [drawn_kind(draw, 25, 12) for _ in range(200)]:
            for value in (kind, listed(kind), mixed(kind)):
                self.answers(kind_text(value), text_of(kind))
            self.answers(read_kind(text_of(kind)), kind)

    def test_cut_off_and_too_long(self):
        for kind in KINDS:
            items = text_of(kind).split(" ")
            for count in range(1, len(items)):
                self.refuses(BadText, [0, count], read_kind, " ".join(items[:count]))
            for more in ("o", "0", ">", "", "> o o"):
                self.refuses(BadText, [0, len(items)], read_kind, " ".join(items + [more]))

    def test_bent(self):
        odd = (
            "", "O", "00", "01", "-1", "+1", "1_0", "a", "of", "\u0663", "0\n", "1.", "<", ">>", "1" * 61, "0" * 61,
            "oo",
        )
        for kind in KINDS:
            items = text_of(kind).split(" ")
            for at in range(len(items)):
                for item in odd:
                    self.refuses(BadText, [0, at], read_kind, " ".join(items[:at] + [item] + items[at + 1:]))

    def test_long_integers(self):
        self.answers(read_kind("9" * 60), GREAT)
        self.answers(read_kind("> 1" + "0" * 59 + " o"), (10 ** 59, "o"))
        self.refuses(BadText, [0, 0], read_kind, "9" * 61)
        self.refuses(BadText, [0, 2], read_kind, "> o 1" + "0" * 60)
        self.refuses(BadText, [0, 0], read_kind, "9" * 19000)

    def test_no_strings(self):
        for value in (None, True, 0, b"o", ["o"], ("o", "o"), {}, object()):
            self.refuses(BadText, [0, 0], read_kind, value)

    def test_blanks(self):
        for text, item in (
            ("", 0), (" o", 0), ("o ", 1), ("> o  o", 2), (">\to o", 0), ("> o", 2), (">", 1), ("> o o o", 3),
        ):
            with self.subTest(text=text):
                self.refuses(BadText, [0, item], read_kind, text)


class NumberKinds(Cases):
    def test_them(self):
        self.answers(number_kind(), N)
        self.answers([reckoning_kind(many) for many in range(4)], [N, (N, N), (N, (N, N)), (N, (N, (N, N)))])

    def test_refused(self):
        for many in NO_MANY:
            self.refuses(BadNumber, ["many"], reckoning_kind, many)


class Instances(Cases):
    def test_told_ones(self):
        for kind, general, expected in (
            ("o", "o", True), ("o", 0, True), (0, "o", False), (3, 0, True), (0, 3, True), (("o", "o"), "o", False),
            ("o", ("o", "o"), False), (("o", 1), (0, 0), False), (((0, 1), (0, 1)), (7, 7), True),
            ((1, 0), (0, 1), True),
            (((0, 1), (1, 0)), (7, 7), False), ((0, (1, 0)), (1, (0, 1)), True), ((0, (0, 0)), (1, (0, 1)), True),
            ((0, (1, 0)), (1, (1, 1)), False), (0, (0, 0), False), ((0, 0), 0, True), ((1, 2), (0, 0), False),
            ((("o", "o"), ("o", 1)), (0, 0), False), ((1, (2, 1)), (3, 4), True), ((1, 2), (1, "o"), False),
        ):
            for one in (kind, listed(kind)):
                for other in (general, listed(general)):
                    self.answers(is_instance(one, other), expected)

    def test_of_itself(self):
        draw = random.Random(3)
        for _ in range(100):
            kind = drawn_kind(draw, 15)
            self.answers(is_instance(kind, kind), True)
            self.answers(is_instance(kind, 0), True)
            self.answers(is_instance(renumbered(kind), kind) and is_instance(kind, renumbered(kind)), True)

    def test_what_comes_of_putting_in(self):
        draw = random.Random(4)
        for _ in range(200):
            general = drawn_kind(draw, 11)
            given = [drawn_kind(draw, 7) for _ in range(3)]
            self.answers(is_instance(reference.put_in_kind(general, given), general), True)

    def test_against_all_small_ones(self):
        leaves = ["o", 0, 1]
        small = leaves + list(itertools.product(leaves, repeat=2))
        small += [(one, other) for one in leaves for other in itertools.product(leaves, repeat=2)]
        for general in small:
            made = {reference.put_in_kind(general, [one, other]) for one in small for other in small}
            for kind in small:
                self.answers(is_instance(kind, general), kind in made)


class Joined(Cases):
    def check(self, one, other):
        answer = joined(one, other)
        self.answers(answer, reference.joined(one, other))
        self.answers(joined(listed(one), mixed(other)), answer)
        back = joined(other, one)
        self.assertEqual(back, answer)
        if answer is not None:
            self.assertTrue(is_instance(answer, one) and is_instance(answer, other))
        return answer

    def test_told_ones(self):
        for one, other, expected in (
            (0, 0, 0), (5, 9, 0), ("o", "o", "o"), ("o", 4, "o"), ("o", ("o", "o"), None), (0, (0, 1), (0, 1)),
            (8, (7, 7), (0, 0)), ((0, 1), (1, 0), (0, 1)), ((0, 0), (0, 1), (0, 0)), ((0, 0), ("o", 0), ("o", "o")),
            ((0, 0), ((0, 1), 2), ((0, 1), (0, 1))), ((0, (0, 0)), ((1, 2), 3), ((0, 1), ((0, 1), (0, 1)))),
            ((0, "o"), ("o", (0, 0)), None), ((0, (1, 0)), (1, (0, 0)), (0, (0, 0))),
            ((0, 0), (("o", 1), (2, 2)), (("o", "o"), ("o", "o"))),
        ):
            with self.subTest(one=one, other=other):
                self.answers(self.check(one, other), expected)

    def test_a_name_in_its_own_pair(self):
        for one, other in (
            ((0, 0), (0, (0, 1))), ((0, (0, 0)), ((1, 2), (1, 1))), ((0, (1, (0, 1))), (2, (2, (3, (3, 4))))),
            ((0, (0, (1, 1))), ((2, 3), (3, (4, 5)))), ((0, (1, 0)), ((1, 2), (2, 2))),
        ):
            with self.subTest(one=one, other=other):
                self.answers(self.check(one, other), reference.joined(one, other))
        self.answers(joined((0, 0), (0, (0, 1))), None)
        self.answers(joined((0, (1, (0, 1))), ((2, 3), (2, (4, 4)))), None)

    def test_drawn(self):
        draw = random.Random(5)
        found = [self.check(drawn_kind(draw, 11), drawn_kind(draw, 11)) for _ in range(800)]
        self.assertGreater(found.count(None), 100)
        self.assertGreater(len(found) - found.count(None), 100)

    def test_with_instances(self):
        draw = random.Random(6)
        for _ in range(100):
            general = drawn_kind(draw, 9)
            kind = reference.put_in_kind(general, [drawn_kind(draw, 5) for _ in range(3)])
            self.answers(self.check(kind, general), renumbered(kind))

    def test_great_ones(self):
        pairs = list(range(250))
        while len(pairs) > 1:
            pairs = [tuple(pairs[at:at + 2]) if at + 1 < len(pairs) else pairs[at] for at in range(0, len(pairs), 2)]
        wide = pairs[0]
        self.assertEqual(len(text_of(wide).split(" ")), 499)
        self.answers(is_instance(wide, wide), True)
        self.answers(joined(wide, wide), wide)
        self.answers(joined(wide, 7), wide)
        deep = 0
        for number in range(1, 59):
            deep = (number, deep)
        self.answers(joined(deep, deep), renumbered(deep))
        self.answers(is_instance(renumbered(deep), deep), True)
        self.answers(read_kind(kind_text(deep)), deep)
        # Each name is put for the next one; the last would stand within itself.
        chained = [(number, number + 1) for number in range(57)]
        self.answers(joined(row(chained), row([(number, number) for number in range(57)])), row([(0, 0)] * 57))
        ring = chained[:-1] + [(0, (56, "o"))]
        self.answers(joined(row(ring), row([(number, number) for number in range(57)])), None)


def row(kinds):
    """From each of the kinds on to the next one."""
    whole = "o"
    for kind in reversed(kinds):
        whole = (kind, whole)
    return whole


class KindOf(Cases):
    def check(self, writing):
        paper = kind_of(writing)
        expected = reference.kind_of(writing)
        if expected is None:
            self.assertIs(type(paper), Kindless)
            self.assertIn(paper.place, reference.kindless_places(writing))
        else:
            self.assertIs(type(paper), Kinded)
            self.answers(paper.parts, expected)
        for value in (listed(writing), mixed(writing)):
            self.assertEqual(kind_of(value), paper)
        return paper

    def test_told_ones(self):
        for text, kind, free in (
            ("x", 0, (("x", 0),)), ("of x x", (0, 0), ()), ("of x y", (0, 1), (("y", 1),)),
            ("to f x", 0, (("f", (1, 0)), ("x", 1))), ("of x of y x", (0, (1, 0)), ()),
            ("of x of x x", (0, (1, 1)), ()),
            ("to of x x y", 0, (("y", 0),)), ("to f of x g", 0, (("f", ((1, 2), 0)), ("g", 2))),
            ("to to f x x", 0, (("f", (1, (1, 0))), ("x", 1))), ("of f of x to f x", ((0, 1), (0, 1)), ()),
            ("of f of x to f to f x", ((0, 0), (0, 0)), ()), ("of a to b a", (0, 1), (("b", (0, 1)),)),
            ("of a of b of c to to a c to b c", ((0, (1, 2)), ((0, 1), (0, 2))), ()),
            ("to of x of y x z", (0, 1), (("z", 1),)), ("of f to f of f f", (((0, 0), 1), 1), ()),
            ("to x of x x", 0, (("x", ((1, 1), 0)),)), ("to to k a b", 0, (("k", (1, (2, 0))), ("a", 1), ("b", 2))),
            ("to of a a of b b", (0, 0), ()),
        ):
            with self.subTest(text=text):
                paper = self.check(read_writing(text))
                self.answers((paper.kind, paper.free), (kind, free))

    def test_without_a_kind(self):
        for text, places in (
            ("of n to n n", [(0,)]), ("to of x to x x of x to x x", [(0, 0), (1, 0)]), ("to x x", [()]),
            ("of x of y to x to y x", []), ("to to n n to n n", [(0,), (1,)]), ("to of x x of x to x x", [(1, 0)]),
            ("to to f x to x f", [()]), ("of f to to f f of f f", [(0, 0)]), ("to of f to f f x", [(0, 0)]),
            ("of a to b to of b to b b a", [(0, 1, 0, 0)]), ("to of f of x to f to x f k", []),
            ("to of u of v to u v of w to w to w w", [(1, 0, 1)]), ("of f of g to to g f to f g", [(0, 0)]),
        ):
            with self.subTest(text=text):
                writing = read_writing(text)
                self.assertEqual(reference.kindless_places(writing), places)
                paper = self.check(writing)
                self.assertEqual(bool(paper), not places)

    def test_drawn(self):
        papers = [self.check(writing) for writing in many_drawn(500, 12, seed=21) + many_drawn(200, 25, "ab", seed=22)]
        self.assertGreater(sum(map(bool, papers)), 100)
        self.assertGreater(len(papers) - sum(map(bool, papers)), 100)

    def test_drawn_closed(self):
        papers = []
        for writing in many_drawn(500, 14, "abcd", seed=23):
            for name in "abcd":
                writing = ("of", name, writing)
            papers.append(self.check(writing))
        self.assertGreater(sum(map(bool, papers)), 100)

    def test_names_bound_again(self):
        for text in (
            "of x to x of x x", "to of x x of x of x x", "of x to of x x x", "to of x to x y of x x",
            "of x of x to x x",
        ):
            with self.subTest(text=text):
                self.check(read_writing(text))

    def test_kindless_within_much(self):
        wrong = read_writing("to z z")
        right = read_writing("of f of x to f to f x")
        for around in range(0, 40, 3):
            writing = wrong
            for turn in range(around):
                writing = [("to", writing, right), ("of", "u", writing), ("to", right, writing)][turn % 3]
            paper = self.check(writing)
            self.assertEqual(len(paper.place), around)
            self.check(("to", writing, writing))

    def test_no_writings(self):
        for value in NO_WRITINGS:
            self.refuses(BadWriting, ["writing"], kind_of, value)


class Reckons(Cases):
    def test_told_ones(self):
        for text in (
            "of f of x x", "of f of x to f to f x", "of f f", "of n n", "of f of x to f x", "of n of m n",
            "of n of m of k m",
            "of m of n to m n", "of x of y x", "of n of m of f of x to to n f to to m f x",
            "of n of m of f to n to m f",
            "of n of a of b of f of x to to n of u to to b f x to to a f x", "of n to n n", "of a of b of c of d a",
            "of n of f of x to to n of u to f x x", "of a of b of c of f of x x", "to of x x of x x",
            "of n of f of x to f n",
        ):
            writing = read_writing(text)
            for many in range(4):
                with self.subTest(text=text, many=many):
                    self.answers(reckons(writing, many), self.reckons_so_many(writing, many))
                    self.answers(reckons(listed(writing), many), self.reckons_so_many(writing, many))

    def reckons_so_many(self, writing, many):
        found = reference.kind_of(writing)
        if found is None:
            return False
        asked = N
        for _ in range(many):
            asked = (N, asked)
        return reference.unified(asked, reference.named_kind(found[0], ""), {}) is not None

    def test_each_many(self):
        for text, counts in (
            ("of f of x to f to f x", [0, 1]), ("of n of m n", [2]), ("of m of n to m n", [0, 1]), ("of n to n n", []),
            ("of f of x x", [0, 1, 2]), ("of x of y x", [2]), ("of n of f of x to to n of u to f x x", [1]),
            ("of n of m of f to n to m f", [2]), ("of n of m of f of x to to n f to to m f x", [2]),
            ("of a of b of c b", [3]),
            ("of n of a of b of f of x to to n of u to to b f x to to a f x", [3]), ("of a of b of c of d a", []),
        ):
            with self.subTest(text=text):
                self.assertEqual([many for many in range(4) if reckons(read_writing(text), many)], counts)

    def test_drawn(self):
        answers = []
        for writing in many_drawn(400, 9, "nmf", seed=31):
            writing = ("of", "n", ("of", "m", ("of", "f", writing)))
            for many in range(4):
                answers.append(reckons(writing, many))
                self.answers(answers[-1], self.reckons_so_many(writing, many))
        self.assertIn(True, answers)

    def test_refused(self):
        for value in NO_WRITINGS:
            self.refuses(BadWriting, ["writing"], reckons, value, 0)
            self.refuses(BadWriting, ["writing"], reckons, value, None)
        for many in NO_MANY:
            self.refuses(BadNumber, ["many"], reckons, ("of", "x", "x"), many)
            self.refuses(BadNumber, ["many"], reckons, "x", many)
        for text in ("x", "to f x", "of x y", "to x x", "to of x x x", "of f of x to f y"):
            for many in range(4):
                self.refuses(Misfit, ["free"], reckons, read_writing(text), many)


class Papers(Cases):
    def test_parts(self):
        kinded = Kinded([0, [1]], [["x", 1]])
        self.answers([kinded.word, kinded.parts], ["kinded", ((0, (1,)), (("x", 1),))])
        self.answers([kinded.kind, kinded.free], [(0, (1,)), (("x", 1),)])
        kindless = Kindless([0, 1])
        self.answers([kindless.word, kindless.parts, kindless.place], ["kindless", ((0, 1),), (0, 1)])
        self.answers([bool(kinded), bool(kindless)], [True, False])
        self.answers([Kinded(free=1, kind=None).parts, Kindless(place="a").parts], [(None, 1), ("a",)])

    def test_classes(self):
        self.assertTrue(issubclass(Kinded, Paper) and not issubclass(Kinded, Denial))
        self.assertTrue(issubclass(Kindless, Denial))

    def test_equality(self):
        self.assertEqual(Kinded([0], []), Kinded((0,), ()))
        self.assertNotEqual(Kinded(0, ()), Kinded(1, ()))
        self.assertNotEqual(Kindless(()), Kindless((0,)))
        self.assertNotEqual(Kinded(0, ()), Paper("kinded", 0, ()))
        self.assertNotEqual(Kindless(0), Denial("kindless", 0))


class Great(Cases):
    def test_200_layers(self):
        deep = put(tower(101, "x", "w"), "w", tower(100))
        self.assertEqual(layers_of(deep), 200)
        paper = kind_of(deep)
        kind = (198, 198)
        for number in reversed(range(198)):
            kind = (number, kind)
        self.assertTrue(paper.kind == kind and paper.free == ())
        self.assertFalse(reckons(deep, 3))
        wrong = put(chain(101, "x", "w"), "w", chain(100))
        self.assertEqual(layers_of(wrong), 200)
        self.assertEqual(kind_of(wrong).place, (1,) * 198)
        far = put(tower(150, "u", "w"), "w", put(chain(40, "f", "v"), "v", ("to", "z", "z")))
        self.assertEqual(len(kind_of(far).place), 188)

    def test_2000_signs(self):
        wrong = ("of", "y", put(spread("w", 199), "w", spread("x", 19)))
        self.assertEqual(signs_of(wrong), 2000)
        place = kind_of(wrong).place
        self.assertEqual(kind_of(wrong), Kindless(place))
        right = put(spread("w", 665), "w", read_writing("of z z"))
        right = put(right, "w", "w")
        self.assertEqual(signs_of(right), 998)
        self.assertEqual(kind_of(("to", right, right)), Kinded((0, 0), ()))
        # Wherever it goes wrong, it is found among much that is right.
        for wrong in ("to z z", "to of z z w", "of g to g g"):
            writing = ("to", right, ("to", ("of", "v", read_writing(wrong)), right))
            self.assertEqual(bool(kind_of(writing)), reference.kind_of(read_writing(wrong)) is not None)


if __name__ == "__main__":
    unittest.main()
