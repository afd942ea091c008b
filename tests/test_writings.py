import random
import string
import unittest

import reference
from helpers import NO_WRITINGS, Cases, chain, drawn, listed, many_drawn, mixed, spread, tower

from timesagain.errors import BadText, BadWriting, NoName
from timesagain.places import with_part
from timesagain.writings import (
    alike, free_names, is_writing, layers_of, put, read_writing, signs_of, writing_text,
)

TWICE = ("of", "f", ("of", "x", ("to", "f", ("to", "f", "x"))))
SAMPLES = [
    "a", "x7", "abcdefghijkl", TWICE, ("of", "u", "w"), ("to", "a", "a"),
    ("to", ("to", "b", "a"), ("of", "a", ("to", "a", ("to", "c", "b")))),
    ("of", "x", ("of", "x", ("to", "x", ("of", "y", "x")))), ("to", ("of", "x", "x"), "x"),
]
DRAWN = SAMPLES + many_drawn(150, 16)
NAMES = ["a", "z", "oft", "too", "o", "f", "t", "of1", "to0", "a0", "z99", "a23456789012", "abcdefghijkl"]


def bends(writing, part):
    """The writing with something else in the stead of each of its parts, one at a time."""
    return [reference.with_part(writing, place, part) for place, _ in reference.places(writing)]


def alpha(writing, names):
    """The writing with new names for its "of"s, in turn from names; free names stay."""
    count = iter(names)

    def told(part, given):
        if isinstance(part, str):
            return given.get(part, part)
        if part[0] == "of":
            name = next(count)
            return ("of", name, told(part[2], {**given, part[1]: name}))
        return ("to", told(part[1], given), told(part[2], given))

    return told(writing, {})


class IsWriting(Cases):
    def test_writings(self):
        for writing in DRAWN + NAMES + [("of", name, name) for name in NAMES] + [("to", name, "a") for name in NAMES]:
            for value in (writing, listed(writing), mixed(writing)):
                self.answers(is_writing(value), True)

    def test_no_writings(self):
        for value in NO_WRITINGS:
            with self.subTest(value=value):
                self.answers(is_writing(value), False)
                self.answers(is_writing(("of", "x", value)), False)
                self.answers(is_writing(["to", value, "x"]), False)
                self.answers(is_writing(("to", "x", value)), False)

    def test_bent_at_one_place(self):
        for writing in SAMPLES:
            for value in (None, True, 0, "A", "of", (), ("a",), ("x", "x", "x"), ("of", "x"), ["to", "x", "x", "x"]):
                for bent in bends(writing, value):
                    self.answers(is_writing(bent), False)

    def test_deep_within(self):
        for value in (None, 1, "", ("of", "to", "x"), ("to", "x")):
            self.answers(is_writing(tower(55, "x", ("to", "x", value))), False)
            self.answers(is_writing(chain(55, "x", value)), False)

    def test_by_name(self):
        self.answers(is_writing(value="a"), True)


class Told(Cases):
    """What is told of a writing."""

    def test_signs_layers_and_free_names(self):
        for writing in DRAWN:
            for value in (writing, listed(writing), mixed(writing)):
                self.answers(signs_of(value), reference.signs(writing))
                self.answers(layers_of(value), reference.layers(writing))
                self.answers(free_names(value), reference.free_names(writing))

    def test_free_names(self):
        for text, names in (
            ("a", ("a",)), ("of a a", ()), ("of a b", ("b",)), ("to a a", ("a",)), ("to b a", ("b", "a")),
            ("to of a a a", ("a",)), ("to a of a a", ("a",)), ("of a of b to a to b c", ("c",)),
            ("of a to of a a a", ()), ("to of a to b a of b to b a", ("b", "a")), ("of a of a a", ()),
            ("to to z y to y to x z", ("z", "y", "x")),
        ):
            with self.subTest(text=text):
                self.answers(free_names(read_writing(text)), names)

    def test_signs_and_layers(self):
        for text, signs, layers in (
            ("a", 1, 1), ("of a a", 2, 2), ("to a a", 3, 2), ("of a of b c", 3, 3), ("to of a a b", 4, 3),
            ("to a of b b", 4, 3), ("to to a b to c d", 7, 3), ("of n of f of x to to n f x", 8, 6),
        ):
            with self.subTest(text=text):
                self.answers((signs_of(read_writing(text)), layers_of(read_writing(text))), (signs, layers))

    def test_by_name(self):
        self.answers([signs_of(writing="a"), layers_of(writing="a"), free_names(writing="a")], [1, 1, ("a",)])
        self.answers(writing_text(writing=["of", "a", "a"]), "of a a")

    def test_no_writings(self):
        for value in NO_WRITINGS + [("of", "x", ["to", "x", None])]:
            for function in (signs_of, layers_of, free_names, writing_text):
                self.refuses(BadWriting, ["writing"], function, value)


class Alike(Cases):
    def both_ways(self, one, other, expected):
        self.answers(alike(one, other), expected)
        self.answers(alike(listed(other), mixed(one)), expected)

    def test_bound_names_exchanged(self):
        names = [f"q{number}" for number in range(20)]
        for writing in DRAWN:
            self.both_ways(writing, writing, True)
            self.both_ways(writing, alpha(writing, names), True)
            self.both_ways(alpha(writing, names[::-1]), alpha(writing, names), True)

    def test_one_name_changed(self):
        for writing in DRAWN[:60]:
            for name in ("a", "x", "new"):
                for place, part in reference.places(writing):
                    if isinstance(part, str):
                        other = reference.with_part(writing, place, name)
                        self.both_ways(writing, other, reference.alike(writing, other))

    def test_told_ones(self):
        for one, other, expected in (
            ("a", "a", True), ("a", "b", False), ("of a a", "of b b", True), ("of a b", "of b b", False),
            ("of a b", "of c b", True), ("of a b", "of a c", False), ("of a of b a", "of b of a b", True),
            ("of a of b a", "of a of b b", False), ("of a of b a", "of a of a a", False),
            ("of a of b b", "of a of a a", True), ("to a of a a", "to a of b b", True),
            ("to a of a a", "to b of a a", False), ("of x to x y", "of y to y x", False), ("to a b", "to b a", False),
            ("to of a a b", "to b of a a", False), ("of a a", "a", False), ("of a b", "to a b", False),
            ("of x of y to x to y z", "of y of x to y to x z", True), ("to a a", "of a a", False),
            ("of x of y of x x", "of y of x of z z", True), ("of x of y of z x", "of x of y of x x", False),
            ("to to a a a", "to a to a a", False), ("of a to of b b a", "of a to of a a a", True),
        ):
            with self.subTest(one=one, other=other):
                self.both_ways(read_writing(one), read_writing(other), expected)

    def test_drawn_pairs(self):
        draw = random.Random(3)
        for _ in range(400):
            one, other = drawn(draw, 4, "ab"), drawn(draw, 4, "ab")
            self.both_ways(one, other, reference.alike(one, other))

    def test_no_writings(self):
        for value in NO_WRITINGS:
            self.refuses(BadWriting, ["one"], alike, value, "a")
            self.refuses(BadWriting, ["other"], alike, "a", value)
            self.refuses(BadWriting, ["one"], alike, value, value)

    def test_by_name(self):
        self.answers(alike(other="a", one="a"), True)


class Put(Cases):
    def check(self, writing, name, other):
        answer = put(writing, name, other)
        self.answers(put(listed(writing), name, mixed(other)), answer)
        self.assertTrue(is_writing(answer))
        self.answers(mixed(answer), mixed(listed(answer)))
        expected = reference.put_shape(reference.shape(writing), name, reference.shape(other))
        self.assertEqual(reference.shape(answer), expected)
        times = reference.free(writing).count(name)
        self.assertEqual(reference.signs(answer), signs_of(writing) + times * (signs_of(other) - 1))
        names = set(reference.free(writing)) - {name} | set(reference.free(other) if times else [])
        self.assertEqual(set(free_names(answer)), names)
        return answer

    def test_drawn(self):
        draw = random.Random(5)
        for _ in range(600):
            self.check(drawn(draw, 14), draw.choice("abcxd"), drawn(draw, 6))

    def test_free_bound_both_nowhere(self):
        for text in ("a", "of a a", "to a of a a", "b", "of a of b to a b", "to of a a of b a"):
            for other in ("a", "b", "c", ("to", "a", "b"), TWICE, ("of", "b", "a")):
                with self.subTest(text=text, other=other):
                    self.check(read_writing(text), "a", other)

    def test_caught_two_and_three_deep(self):
        for text in (
            "of u w", "of u of v w", "of u of v of t w", "of u of u w", "of u of u of u to w u",
            "of u to w of u to w u",
            "of u of v to to u v w", "of u of v of t to u to v to t w", "to of u w of u w", "of w of u w",
            "of u to of u to u w u", "of u of w to u w", "of u to u of v to v to u w",
        ):
            for other in ("u", "v", "to u v", "to v to u t", "of v u", "of u to u v", "w", "to w u"):
                with self.subTest(text=text, other=other):
                    self.check(read_writing(text), "w", read_writing(other))

    def test_names_around_that_look_like_new_ones(self):
        letters = list(string.ascii_lowercase)
        digits = [letter + digit for letter in letters for digit in string.digits]
        long = [letter * 12 for letter in letters]
        for names in (letters, digits, letters + digits, long, letters + digits + long, ["u0", "u1", "a", "b", "a0"]):
            crowd = "s"
            for name in names:
                crowd = ("to", crowd, name)
            for name in (names[0], names[-1], names[len(names) // 2]):
                # Below, each of these is free, bound further out, or bound further in.
                self.check(("of", name, ("to", "w", crowd)), "w", name)
                self.check(("of", name, ("of", names[1], "w")), "w", ("to", name, crowd))
                around = ("to", "w", name)
                for other in names:
                    around = ("of", other, around)
                self.check(around, "w", ("to", name, names[1]))

    def test_each_letter_is_caught(self):
        for letter in string.ascii_lowercase:
            for name in (letter, letter + "0", letter + "9", letter + "12", letter * 12, letter + "0" * 11):
                self.check(("of", name, ("to", "w1", name)), "w1", name)

    def test_what_leaves_it_alike(self):
        for writing in DRAWN:
            for name in "abcx":
                self.assertTrue(alike(put(writing, name, name), writing))
            self.assertTrue(alike(put(writing, "nowhere", TWICE), writing))

    def test_one_behind_the_other(self):
        draw = random.Random(7)
        for _ in range(150):
            writing, one, other = drawn(draw, 10), drawn(draw, 5), drawn(draw, 5, "abc")
            first = put(put(writing, "x", one), "a", other)
            second = put(put(writing, "a", other), "x", put(one, "a", other))
            self.assertTrue(alike(first, second))

    def test_of_alike_ones(self):
        names = [f"q{number}" for number in range(20)]
        for writing in DRAWN[:60]:
            for other in (("to", "a", "q3"), ("of", "q0", ("to", "q0", "q1"))):
                one = put(writing, "x", other)
                self.assertTrue(alike(one, put(alpha(writing, names), "x", alpha(other, names))))

    def test_long_names(self):
        name, other = "abcdefghijkl", "lkjihgfedcba"
        self.check(("of", name, ("of", other, ("to", "w", name))), "w", ("to", name, other))

    def test_refused(self):
        for value in NO_WRITINGS:
            self.refuses(BadWriting, ["writing"], put, value, "a", "a")
            self.refuses(BadWriting, ["other"], put, "a", "a", value)
            self.refuses(BadWriting, ["writing"], put, value, None, value)
        for value in (None, True, 0, "", "of", "to", "A", "a b", ["a"], ("a",), b"a", "a" * 13, ("to", "a", "b"), {}):
            self.refuses(NoName, [value], put, "a", value, "a")
            self.refuses(NoName, [value], put, "a", value, "of")

    def test_by_name(self):
        self.answers(put(other="b", name="a", writing="a"), "b")

    def test_nothing_changes(self):
        writing, other = ["of", "u", ["to", "w", "u"]], ["to", "u", "u"]
        put(writing, "w", other)
        self.answers((writing, other), (["of", "u", ["to", "w", "u"]], ["to", "u", "u"]))


class Texts(Cases):
    def test_written_and_read_back(self):
        for writing in DRAWN:
            for value in (writing, listed(writing), mixed(writing)):
                self.answers(writing_text(value), reference.text(writing))
            self.answers(read_writing(reference.text(writing)), writing)

    def test_names(self):
        for name in NAMES:
            self.answers(read_writing(f"of {name} {name}"), ("of", name, name))

    def test_cut_off(self):
        for writing in DRAWN[:40]:
            items = writing_text(writing).split(" ")
            for count in range(1, len(items)):
                self.refuses(BadText, [0, count], read_writing, " ".join(items[:count]))

    def test_an_item_too_many(self):
        for writing in SAMPLES:
            text = writing_text(writing)
            for more in ("a", "of", "to", "of a a", "", "A", " "):
                self.refuses(BadText, [0, len(text.split(" "))], read_writing, text + " " + more)

    def test_an_item_that_cannot_stand(self):
        for writing in SAMPLES:
            items = writing_text(writing).split(" ")
            for at in range(len(items)):
                for item in ("", "A", "7", "a_", "\t", "a\n", "abcdefghijklm", "\xe9", "0", ">", "-"):
                    for bent in (items[:at] + [item] + items[at:], items[:at] + [item] + items[at + 1:]):
                        self.refuses(BadText, [0, at], read_writing, " ".join(bent))

    def test_behind_of_stands_a_name(self):
        for text, item in (
            ("of of a a", 1), ("of to a b", 1), ("of a of to b c", 3), ("to of of a b", 2), ("of", 1), ("to", 1),
            ("of a", 2), ("to a", 2), ("", 0), (" ", 0), (" a", 0), ("a ", 1), ("of  a a", 1), ("of a  a", 2),
            ("of a a a", 3), ("a a", 1), ("to a b of", 3), ("\ta", 0), ("of\ta a", 0), ("OF a a", 0),
        ):
            with self.subTest(text=text):
                self.refuses(BadText, [0, item], read_writing, text)

    def test_no_strings(self):
        for value in (None, True, 0, 3, b"a", ["a"], ("of", "a", "a"), {}, 1.5, object()):
            self.refuses(BadText, [0, 0], read_writing, value)

    def test_by_name(self):
        self.answers(read_writing(text="a"), "a")


class Great(Cases):
    """Writings as great as may be passed."""

    def test_200_signs(self):
        writing = ("of", "y", spread("x", 199))
        self.answers(signs_of(writing), 200)
        self.answers(free_names(writing), ("x",))
        self.answers(read_writing(writing_text(writing)), writing)
        self.assertEqual(signs_of(put(writing, "x", spread("y", 199))), 101 - 1 + 100 * 199)
        crowd = chain(50, "a", ("to", "b", "c"))
        self.assertTrue(alike(put(crowd, "a", crowd), put(listed(crowd), "a", crowd)))

    def test_200_layers(self):
        for deep in (
            put(tower(101, "x", "w"), "w", tower(100)), put(tower(101, "x", "w"), "w", chain(100)),
            put(chain(101, "x", "w"), "w", chain(100)), put(chain(101, "x", "w"), "w", tower(100, "y", "x")),
        ):
            self.assertEqual(layers_of(deep), 200)
            self.assertTrue(is_writing(deep))
            self.assertEqual(signs_of(deep), len(writing_text(deep).replace("of ", "of").split(" ")))
            self.assertTrue(alike(deep, deep))
            self.assertTrue(alike(put(deep, "x", "x"), deep))
            self.assertEqual(free_names(put(deep, "x", "y7")), ("y7",) if "x" in free_names(deep) else ())
            self.assertFalse(alike(deep, put(deep, "x", "y7")) and "x" in free_names(deep))

    def test_2000_signs(self):
        great = put(spread("w", 199), "w", spread("x", 19))
        self.assertEqual(signs_of(great), 1999)
        great = ("of", "y", great)
        self.assertEqual(signs_of(great), 2000)
        self.assertEqual(free_names(great), ("x",))
        self.assertTrue(alike(great, put(great, "x", "x")))
        self.assertEqual(signs_of(put(great, "x", "y")), 2000)

    def test_many_names(self):
        writing = "w"
        for number in range(1, 100):
            writing = ("of", f"n{number}", ("to", writing, f"n{number + 30}"))
        other = "n5"
        for number in range(99):
            other = ("to", other, f"n{number}")
        answer = put(writing, "w", other)
        expected = reference.put_shape(reference.shape(writing), "w", reference.shape(other))
        self.assertEqual(reference.shape(answer), expected)
        part = with_part(writing, (), answer)
        self.assertTrue(alike(part, answer))


if __name__ == "__main__":
    unittest.main()
