import itertools
import random
import unittest

import reference
from helpers import NO_WRITINGS, Cases, chain, listed, many_drawn, mixed, spread, tower

from timesagain.errors import BadWriting, NoPlace
from timesagain.places import part_at, places_of, with_part
from timesagain.writings import alike, free_names, layers_of, put, read_writing, signs_of, writing_text

TWICE = ("of", "f", ("of", "x", ("to", "f", ("to", "f", "x"))))
DRAWN = ["a", ("of", "a", "a"), ("to", "a", "b"), TWICE] + many_drawn(120, 14, seed=11)
ODD_PLACES = [
    None, True, False, 0, 1, -1, "", "0", "01", b"", b"0", {}, {0: 1}, {0}, range(1), 1.5, object(), (2,), (-1,),
    (True,),
    (False,), [False], [True], ("0",), (0.0,), (None,), ((0,),), [[0]], ((),), (0, True), (0, False), (0, "0"),
    (0, None),
    (0, 2), (0, -1), (0, 10 ** 50), (0, (0,)),
]


class PlacesOf(Cases):
    def test_all_places(self):
        for writing in DRAWN:
            expected = tuple(place for place, _ in reference.places(writing))
            for value in (writing, listed(writing), mixed(writing)):
                self.answers(places_of(value), expected)
            self.answers(places_of(writing), tuple(sorted(expected)))
            self.assertEqual(len(expected), signs_of(writing))

    def test_a_whole_stands_ahead(self):
        self.answers(
            places_of(read_writing("to of a b of c to d e")), ((), (0,), (0, 0), (1,), (1, 0), (1, 0, 0), (1, 0, 1))
        )

    def test_no_writings(self):
        for value in NO_WRITINGS:
            self.refuses(BadWriting, ["writing"], places_of, value)

    def test_by_name(self):
        self.answers(places_of(writing=["of", "a", "a"]), ((), (0,)))


class PartAt(Cases):
    def test_each_part(self):
        for writing in DRAWN:
            for place, part in reference.places(writing):
                self.answers(part_at(writing, place), part)
                self.answers(part_at(listed(writing), list(place)), part)
                self.answers(part_at(mixed(writing), place), part)

    def test_no_places(self):
        for writing in DRAWN[:30]:
            own = [place for place, _ in reference.places(writing)]
            for place in itertools.chain.from_iterable(itertools.product((0, 1), repeat=many) for many in range(4)):
                if place not in own:
                    self.refuses(NoPlace, [place], part_at, writing, place)
                    self.refuses(NoPlace, [place], with_part, writing, place, "a")
            for place in own:
                for step in (0, 1, 2):
                    beyond = list(place) + [step]
                    if tuple(beyond) not in own:
                        self.refuses(NoPlace, [beyond], part_at, writing, beyond)

    def test_odd_places(self):
        for writing in (
            "a", ("of", "a", "a"), ("of", "a", ("to", "b", "c")), ("to", ("of", "a", "b"), ("to", "a", "b")),
        ):
            for place in ODD_PLACES:
                self.refuses(NoPlace, [place], part_at, writing, place)
                self.refuses(NoPlace, [place], with_part, writing, place, "a")

    def test_places_of_another_writing(self):
        for place in places_of(TWICE):
            if place not in ((), (0,), (0, 0)):
                self.refuses(NoPlace, [place], part_at, ("of", "a", ("of", "a", "a")), place)

    def test_which_error_comes_first(self):
        for value in NO_WRITINGS:
            self.refuses(BadWriting, ["writing"], part_at, value, None)
            self.refuses(BadWriting, ["writing"], part_at, value, ())

    def test_by_name(self):
        self.answers(part_at(place=[0], writing=["of", "a", ["to", "a", "b"]]), ("to", "a", "b"))


class WithPart(Cases):
    def test_each_place(self):
        for writing in DRAWN:
            for place, _ in reference.places(writing):
                for part in ("a", ("of", "x", "b"), ("to", "x", ("to", "b", "c"))):
                    expected = reference.with_part(writing, place, part)
                    self.answers(with_part(writing, place, part), expected)
                    self.answers(with_part(listed(writing), list(place), listed(part)), expected)
                    self.answers(part_at(with_part(writing, place, part), place), part)

    def test_the_old_part_put_back(self):
        for writing in DRAWN:
            for place in places_of(writing):
                other = with_part(writing, place, ("to", "new", "new"))
                self.answers(with_part(other, place, part_at(writing, place)), writing)

    def test_caught(self):
        for text, place, part, expected in (
            ("of u w", (0,), "u", "of u u"), ("of u of v w", (0, 0), "to u v", "of u of v to u v"),
            ("of u of u w", (0, 0), "u", "of u of u u"), ("of u w", (), "u", "u"), ("a", (), "to b b", "to b b"),
            ("to of u w u", (0, 0), "u", "to of u u u"), ("to of u w u", (1,), "of u w", "to of u w of u w"),
        ):
            with self.subTest(text=text, place=place):
                self.answers(writing_text(with_part(read_writing(text), place, read_writing(part))), expected)
        self.answers(free_names(with_part(("of", "u", "w"), [0], "u")), ())

    def test_two_places_apart_in_either_order(self):
        draw = random.Random(13)
        for writing in DRAWN:
            own = places_of(writing)
            one, other = draw.choice(own), draw.choice(own)
            if one[:len(other)] != other and other[:len(one)] != one:
                first = with_part(with_part(writing, one, TWICE), other, ("to", "a", "x"))
                self.answers(with_part(with_part(writing, other, ("to", "a", "x")), one, TWICE), first)

    def test_no_writings(self):
        for value in NO_WRITINGS:
            self.refuses(BadWriting, ["part"], with_part, "a", (), value)
            self.refuses(BadWriting, ["writing"], with_part, value, (0,), value)
            place = [0]
            self.refuses(NoPlace, [place], with_part, "a", place, value)

    def test_by_name(self):
        self.answers(with_part(part="b", place=(), writing="a"), "b")

    def test_nothing_changes(self):
        writing, place, part = ["of", "u", ["to", "w", "u"]], [0, 1], ["to", "u", "u"]
        self.answers(with_part(writing, place, part), ("of", "u", ("to", "w", ("to", "u", "u"))))
        self.answers((writing, place, part), (["of", "u", ["to", "w", "u"]], [0, 1], ["to", "u", "u"]))
        answer = with_part(writing, place, part)
        part[1] = "v"
        self.answers(answer, ("of", "u", ("to", "w", ("to", "u", "u"))))


class Great(Cases):
    def test_200_layers(self):
        for deep in (put(tower(101, "x", "w"), "w", tower(100)), put(chain(101, "x", "w"), "w", chain(100))):
            places = places_of(deep)
            self.assertEqual(len(places), signs_of(deep))
            self.assertEqual(max(map(len, places)), 199)
            lowest = max(places, key=len)
            self.assertEqual(part_at(deep, lowest), "x")
            self.assertEqual(layers_of(with_part(deep, lowest, "z")), 200)
            self.assertTrue(alike(with_part(deep, (), deep), deep))
            self.assertTrue(alike(with_part(deep, list(lowest), "x"), deep))
            beyond = lowest + (0,)
            self.refuses(NoPlace, [beyond], part_at, deep, beyond)

    def test_2000_signs(self):
        great = ("of", "y", put(spread("w", 199), "w", spread("x", 19)))
        places = places_of(great)
        self.assertEqual(len(places), 2000)
        self.assertEqual(list(places), sorted(places))
        for place in places[::97]:
            self.assertTrue(alike(with_part(great, place, part_at(great, place)), great))


if __name__ == "__main__":
    unittest.main()
