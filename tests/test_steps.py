import random
import string
import unittest

import reference
from helpers import NO_WRITINGS, Cases, chain, listed, many_drawn, mixed, spread, tower

from timesagain.errors import BadNumber, BadWriting, NoPlace, TooMany
from timesagain.papers import Denial, Paper
from timesagain.places import part_at, places_of, with_part
from timesagain.steps import Plain, is_plain, plain, step_at, steps_of
from timesagain.writings import alike, free_names, is_writing, layers_of, put, read_writing, signs_of

TWO = read_writing("of f of x to f to f x")
ENDLESS = read_writing("to of x to x x of x to x x")
NO_MOST = [None, True, False, -1, 1001, 10 ** 40, "1", 1.0, [1], (1,), {}]


def with_steps(count, signs, seed, names="abx"):
    """Drawn writings in which steps can be done, each of them handed something once more."""
    writings = many_drawn(count, signs, names, seed)
    return [("to", ("of", names[-1], one), other) for one, other in zip(writings, writings[1:])]


DRAWN = many_drawn(100, 14, seed=41) + with_steps(150, 9, 42) + with_steps(60, 6, 43, "a")


class StepsOf(Cases):
    def test_each(self):
        for writing in DRAWN:
            expected = tuple(reference.steps(writing))
            for value in (writing, listed(writing), mixed(writing)):
                self.answers(steps_of(value), expected)
                self.answers(is_plain(value), not expected)

    def test_told_ones(self):
        for text, places in (
            ("x", ()), ("of x x", ()), ("to x x", ()), ("to of x x y", ((),)), ("to x of x x", ()),
            ("of y to of x x y", ((0,),)), ("to to of x of y x a b", ((0,),)), ("to a to of x x b", ((1,),)),
            ("to of x to of y y x to of z z w", ((), (0, 0), (1,))), ("to of x to of x x x x", ((), (0, 0))),
            ("to to of x x of y y to of z z a", ((0,), (1,))), ("to of a of b a c", ((),)),
            ("of a of b to to of c c a to of c c b", ((0, 0, 0), (0, 0, 1))),
        ):
            with self.subTest(text=text):
                self.answers(steps_of(read_writing(text)), places)
                self.answers(is_plain(read_writing(text)), not places)

    def test_no_writings(self):
        for value in NO_WRITINGS:
            self.refuses(BadWriting, ["writing"], steps_of, value)
            self.refuses(BadWriting, ["writing"], is_plain, value)

    def test_by_name(self):
        self.answers([steps_of(writing="a"), is_plain(writing=["to", "a", "a"])], [(), True])


class StepAt(Cases):
    def test_each(self):
        for writing in DRAWN:
            for place in reference.steps(writing):
                answer = step_at(writing, place)
                self.assertTrue(is_writing(answer))
                self.assertTrue(reference.alike(answer, reference.step(writing, place)))
                self.answers(step_at(listed(writing), list(place)), answer)
                self.answers(step_at(mixed(writing), place), answer)
                self.assertLessEqual(set(free_names(answer)), set(free_names(writing)))

    def test_caught(self):
        for text, place, expected in (
            ("to of x of y x y", (), "of z y"), ("to of x of x x y", (), "of x x"),
            ("to of x of y of z to to x y z to y z", (), "of a of b to to to y z a b"),
            ("of y to of x of y x y", (0,), "of a of b a"), ("to of x to x of x x y", (), "to y of x x"),
            ("of y of z to of x of y x z", (0, 0), "of a of b of c b"),
            ("of y to of x of y of z to x y to y z", (0,), "of a of b of c to to a z b"),
        ):
            with self.subTest(text=text):
                self.assertTrue(alike(step_at(read_writing(text), place), read_writing(expected)))

    def test_each_letter(self):
        for letter in string.ascii_lowercase:
            for name in (letter, letter + "0", letter + "1", letter + "12", letter * 12):
                other = ("to", name, "n55")
                body = ("of", name, ("of", "n55", ("to", "n66", ("to", name, "n55"))))
                writing = ("to", ("of", "n66", body), other)
                expected = ("of", "n77", ("of", "n88", ("to", other, ("to", "n77", "n88"))))
                self.assertTrue(alike(step_at(writing, ()), expected))
                self.assertTrue(alike(plain(writing, 1).writing, expected))
                self.assertTrue(alike(plain(("of", name, writing), 1).writing, ("of", name, expected)))

    def test_no_places(self):
        for writing in DRAWN[::4]:
            right = reference.steps(writing)
            for place in places_of(writing):
                if place not in right:
                    self.refuses(NoPlace, [place], step_at, writing, place)
                    other = list(place)
                    self.refuses(NoPlace, [other], step_at, writing, other)

    def test_odd_places(self):
        writing = ("to", ("of", "x", "x"), ENDLESS)
        odd = [
            None, True, 0, "", "1", {}, (2,), [True], (False,), ("1",), (1.0,), (1, 0, 0, 1), ((1,),), (0,), [0, 0],
            (1, 0),
            (-1,), [None], (1, 0, 0, 0, 0),
        ]
        for place in odd:
            self.refuses(NoPlace, [place], step_at, writing, place)
        self.assertTrue(alike(step_at(writing, (1,)), writing))

    def test_which_error_comes_first(self):
        for value in NO_WRITINGS:
            self.refuses(BadWriting, ["writing"], step_at, value, None)

    def test_by_name(self):
        self.answers(step_at(place=[], writing=["to", ["of", "x", "x"], "y"]), "y")

    def test_great_ones(self):
        deep = put(tower(100, "x", "w"), "w", ("to", ("of", "v", tower(98, "x", "v")), "z"))
        self.assertEqual(layers_of(deep), 199)
        (place,) = steps_of(deep)
        self.assertTrue(alike(step_at(deep, place), put(tower(100, "x", "w"), "w", tower(98, "x", "z"))))
        body = put(spread("v", 99), "v", spread("w", 19))
        great = ("to", ("of", "w", body), put(spread("v", 99), "v", spread("y", 19)))
        self.assertEqual(signs_of(great), 2 * 999 + 2)
        self.assertEqual(step_at(great, ()), put(body, "w", great[2]))


class Plains(Cases):
    def check(self, writing, most=40):
        """plain, with as many steps as the other way finds, and with one fewer."""
        expected = reference.plain(writing, most)
        if expected is None:
            return None
        last, steps = expected
        paper = plain(writing, steps)
        self.assertIs(type(paper), Plain)
        self.answers(paper.steps, steps)
        self.assertTrue(reference.alike(paper.writing, last))
        self.assertTrue(is_plain(paper.writing))
        self.assertEqual(plain(listed(writing), steps), paper)
        self.assertEqual(plain(mixed(writing), 1000), paper)
        if steps > 0:
            self.refuses(TooMany, ["steps", steps - 1], plain, writing, steps - 1)
            self.refuses(TooMany, ["steps", 0], plain, writing, 0)
        return paper

    def test_drawn(self):
        papers = [self.check(writing) for writing in DRAWN + with_steps(150, 12, 44, "abcx")]
        self.assertGreater(len([paper for paper in papers if paper and paper.steps > 1]), 40)

    def test_drawn_handed_much(self):
        draw = random.Random(45)
        pool = [read_writing(text) for text in (
            "of f of x to f to f x", "of x of y x", "of a of b of c to to a c to b c", "of x x", "of x of y to y x",
            "k",
            "of n of m of f to n to m f", "of x to x x", "of p to to p a b", "of x of y to x to of z y x",
        )]
        found = []
        for _ in range(200):
            writing = draw.choice(pool)
            for _ in range(draw.randrange(1, 5)):
                other = draw.choice(pool)
                writing = ("to", writing, other) if draw.random() < 0.8 else ("to", other, writing)
            found.append(self.check(("of", "k", writing) if draw.random() < 0.5 else writing))
        self.assertGreater(len([paper for paper in found if paper and paper.steps > 4]), 40)

    def test_by_single_steps(self):
        for writing in with_steps(60, 9, 46):
            steps = 0
            while steps < 15 and steps_of(writing) and signs_of(writing) < 300:
                after = step_at(writing, steps_of(writing)[0])
                self.refuses(TooMany, ["steps", 0], plain, writing, 0)
                writing = after
                steps += 1
            if is_plain(writing):
                self.assertTrue(alike(plain(writing, 0).writing, writing))

    def test_plain_ones(self):
        for writing in many_drawn(100, 10, seed=47):
            if is_plain(writing):
                self.assertEqual(plain(writing, 0), Plain(writing, 0))

    def test_told_places(self):
        writing = ("to", TWO, TWO)
        for place in ((), (0,), (0, 0, 0), (0, 0), (0, 0, 1, 1, 0), (0, 0, 1, 1)):
            self.answers(steps_of(writing)[0], place)
            writing = step_at(writing, place)
        self.assertTrue(alike(writing, plain(("to", TWO, TWO), 6).writing))
        self.refuses(TooMany, ["steps", 5], plain, ("to", TWO, TWO), 5)

    def test_what_is_thrown_away(self):
        for text in ("to of x y", "to to of a of b a k", "to to of x of z y w", "to of x of z z"):
            writing = read_writing(text + " " + "to of x to x x of x to x x")
            self.assertLessEqual(self.check(writing).steps, 2)
        within = ("to", ("to", read_writing("of a of b b"), ENDLESS), TWO)
        self.assertEqual(self.check(within).steps, 2)

    def test_what_never_ends(self):
        for most in (0, 1, 2, 17, 1000):
            self.refuses(TooMany, ["steps", most], plain, ENDLESS, most)
            self.refuses(TooMany, ["steps", most], plain, ("to", "a", ENDLESS), most)
            self.refuses(TooMany, ["steps", most], plain, ("of", "a", ("to", ENDLESS, "a")), most)
        self.refuses(TooMany, ["steps", 1000], plain, ("to", spread("a", 1901), ENDLESS), 1000)

    def test_what_grows(self):
        for text in (
            "to of x to x to x x of x to x to x x", "to of x to to x x x of x to to x x x",
            "to of x to a to x x of x to a to x x",
            "to of x of y to x x of x of y to x x", "to of x to to x x b of x to to x x b",
            "of k to of x to to x x to k k of x to to x x to k k",
        ):
            with self.subTest(text=text):
                writing = read_writing(text)
                steps = 0
                while signs_of(writing) <= 2000 and layers_of(writing) <= 200:
                    writing = step_at(writing, steps_of(writing)[0])
                    steps += 1
                which = ["signs", 2000] if signs_of(writing) > 2000 else ["layers", 200]
                self.refuses(TooMany, which, plain, read_writing(text), 1000)
                self.refuses(TooMany, which, plain, read_writing(text), steps)
                self.refuses(TooMany, ["steps", steps - 1], plain, read_writing(text), steps - 1)

    def test_papers(self):
        paper = Plain(["of", "x", ["to", "x", "x"]], 3)
        self.answers([paper.word, paper.parts], ["plain", (("of", "x", ("to", "x", "x")), 3)])
        self.answers([paper.writing, paper.steps, bool(paper)], [("of", "x", ("to", "x", "x")), 3, True])
        self.assertEqual(Plain(steps=[1], writing=None).parts, (None, (1,)))
        self.assertEqual(Plain(["a"], 1), Plain(("a",), 1))
        self.assertNotEqual(Plain("a", 1), Plain("a", 2))
        self.assertNotEqual(Plain("a", 1), Plain("b", 1))
        self.assertNotEqual(Plain("a", 1), Paper("plain", "a", 1))
        self.assertTrue(issubclass(Plain, Paper) and not issubclass(Plain, Denial))

    def test_refused(self):
        for value in NO_WRITINGS:
            self.refuses(BadWriting, ["writing"], plain, value, 5)
            self.refuses(BadWriting, ["writing"], plain, value, None)
        for most in NO_MOST:
            for writing in ("y", ENDLESS, tower(300), spread("x", 2001)):
                self.refuses(BadNumber, ["most"], plain, writing, most)

    def test_by_name(self):
        self.assertEqual(plain(most=0, writing="a"), Plain("a", 0))

    def test_nothing_changes(self):
        writing = ["to", ["of", "x", ["to", "x", "x"]], ["of", "y", "y"]]
        plain(writing, 10)
        step_at(writing, [])
        self.answers(writing, ["to", ["of", "x", ["to", "x", "x"]], ["of", "y", "y"]])


class Bounds(Cases):
    """Writings with just as many signs and layers as may be, and with one more."""

    def test_signs(self):
        most = ("of", "y", put(spread("w", 199), "w", spread("x", 19)))
        self.assertEqual(signs_of(most), 2000)
        self.assertTrue(alike(plain(most, 0).writing, most))
        more = ("of", "z", most)
        for steps in (0, 1000):
            self.refuses(TooMany, ["signs", 2000], plain, more, steps)
            self.refuses(TooMany, ["signs", 2000], plain, ("to", ("of", "v", "v"), most), steps)

    def test_signs_behind_a_step(self):
        # Put for 10 names among 21 signs: 199 signs each leave 11 + 10 * 199.
        body = chain(11, "x", "a")
        self.assertEqual(signs_of(body), 21)
        for signs, count in ((199, 2001), (197, 1981)):
            writing = ("to", ("of", "x", body), spread("y", signs))
            self.assertEqual(signs_of(step_at(writing, ())), count)
            if count <= 2000:
                self.assertEqual(signs_of(plain(writing, 1).writing), count)
            else:
                self.refuses(TooMany, ["signs", 2000], plain, writing, 1)
                self.refuses(TooMany, ["steps", 0], plain, writing, 0)
        other = ("to", "y", ("of", "q", spread("y", 195)))
        for more, refused in ((0, False), (7, False), (8, False), (9, True)):
            writing = ("to", ("of", "x", tower(more + 2, "z", chain(11, "x", "z"))), other)
            self.assertEqual(signs_of(step_at(writing, ())), 1992 + more)
            self.refuses(TooMany, ["steps", 0], plain, writing, 0)
            if refused:
                self.refuses(TooMany, ["signs", 2000], plain, writing, 1)
            else:
                self.assertEqual(plain(writing, 1).steps, 1)

    def test_layers(self):
        for deep in (put(tower(101, "x", "w"), "w", tower(100)), put(chain(101, "x", "w"), "w", chain(100, "y", "x"))):
            self.assertEqual(layers_of(deep), 200)
            self.assertTrue(alike(plain(deep, 0).writing, deep))
            for more in (("of", "z", deep), ("to", deep, "a"), ("to", "a", deep), ("to", ("of", "v", "v"), deep)):
                self.refuses(TooMany, ["layers", 200], plain, more, 0)
                self.refuses(TooMany, ["layers", 200], plain, more, 1000)

    def test_layers_behind_a_step(self):
        for layers in (99, 100, 101):
            for body, other in ((tower(101, "z", "x"), tower(layers)), (chain(101, "z", "x"), chain(layers))):
                writing = ("to", ("of", "x", body), other)
                self.assertEqual(layers_of(step_at(writing, ())), 100 + layers)
                if layers <= 100:
                    self.assertEqual(layers_of(plain(writing, 1).writing), 100 + layers)
                else:
                    self.refuses(TooMany, ["layers", 200], plain, writing, 1)
                    self.refuses(TooMany, ["steps", 0], plain, writing, 0)

    def test_which_comes_first(self):
        both = put(chain(251, "x", "w"), "w", spread("x", 1801))
        self.assertGreater(layers_of(both), 200)
        self.assertGreater(signs_of(both), 2000)
        for steps in (0, 5):
            self.refuses(TooMany, ["signs", 2000], plain, both, steps)
            self.refuses(TooMany, ["signs", 2000], plain, ("to", ("of", "x", "x"), both), steps)
            self.refuses(TooMany, ["layers", 200], plain, ("to", ("of", "x", "x"), tower(201)), steps)
            self.refuses(TooMany, ["layers", 200], plain, tower(201), steps)
        # What a step leads to is asked for its signs and layers, and whether it is plain, ahead of the steps.
        self.refuses(TooMany, ["signs", 2000], plain, ("to", ("of", "x", spread("x", 199)), spread("y", 199)), 1)
        self.assertEqual(plain(("to", ("of", "x", "x"), "y"), 1), Plain("y", 1))
        self.refuses(TooMany, ["steps", 1], plain, ("to", ("of", "x", "x"), ENDLESS), 1)

    def test_many_steps(self):
        idle = "y"
        for _ in range(99):
            idle = ("to", ("of", "x", "x"), idle)
        self.assertEqual(plain(idle, 99), Plain("y", 99))
        self.refuses(TooMany, ["steps", 98], plain, idle, 98)
        # What is done 24 times does 36 times nothing, by 39 steps; 2 steps come ahead.
        many, often = (read_writing("of f of x " + "to f " * count + "x") for count in (24, 36))
        writing = ("to", ("to", many, ("of", "z", ("to", ("to", often, ("of", "v", "v")), "z"))), "y")
        self.assertEqual(plain(writing, 938), Plain("y", 938))
        self.refuses(TooMany, ["steps", 937], plain, writing, 937)
        for _ in range(62):
            writing = ("to", ("of", "z", "z"), writing)
        self.assertEqual(plain(writing, 1000), Plain("y", 1000))
        self.refuses(TooMany, ["steps", 999], plain, writing, 999)
        self.refuses(TooMany, ["steps", 1000], plain, ("to", ("of", "z", "z"), writing), 1000)

    def test_passed_on(self):
        paper = plain(("to", TWO, ("to", TWO, TWO)), 100)
        self.assertTrue(is_plain(paper.writing))
        self.assertEqual(plain(paper.writing, 0), Plain(paper.writing, 0))
        self.assertEqual(part_at(paper.writing, ()), paper.writing)
        self.assertEqual(with_part(paper.writing, (), "a"), "a")


if __name__ == "__main__":
    unittest.main()
