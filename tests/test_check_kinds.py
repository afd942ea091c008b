import itertools
import unittest

import reference
from helpers import NO_WRITINGS, Cases, chain, listed, many_drawn, mixed, tower

from timesagain.check_kinds import shows_kind
from timesagain.errors import BadWriting
from timesagain.kinds import Kinded, Kindless, kind_of
from timesagain.papers import Denial, Paper
from timesagain.places import places_of
from timesagain.steps import Plain
from timesagain.writings import put, read_writing

DRAWN = many_drawn(200, 11, "abx", 51)
DRAWN += [("of", "a", ("of", "x", writing)) for writing in many_drawn(150, 11, "abx", 52)]
NO_PAPERS = [
    None, True, False, 0, 1, "", "kinded", (), [], {}, object(), Kinded, Kindless, Paper("kinded", (0, 0), ()),
    Denial("kindless", ()), Paper("kindless", ()), Denial("kinded", (0, 0), ()), Plain((0, 0), ()), ((0, 0), ()),
]


class OtherKinded(Kinded):
    """A class below Kinded: its values are not made by calling Kinded itself."""


class Kinds(Cases):
    def test_what_kind_of_tells(self):
        for writing in DRAWN:
            paper = kind_of(writing)
            for value in (writing, listed(writing), mixed(writing)):
                self.answers(shows_kind(value, paper), True)
            self.answers(shows_kind(writing, type(paper)(*listed(paper.parts))), True)
            self.answers(shows_kind(writing, type(paper)(*mixed(paper.parts))), True)

    def test_each_place(self):
        for writing in DRAWN:
            right = reference.kindless_places(writing)
            for place in places_of(writing):
                self.answers(shows_kind(writing, Kindless(place)), place in right)
                self.answers(shows_kind(writing, Kindless(list(place))), place in right)

    def test_no_places(self):
        writing = read_writing("to to n n to n n")
        self.answers([shows_kind(writing, Kindless((step,))) for step in (0, 1)], [True, True])
        odd = [
            None, True, 0, 1, "", "0", (2,), (-1,), (True,), (False,), ("0",), (0.0,), (None,), {}, ((0,),),
            (0, 0, 0), (0, 0),
            (1, 1), (0, 2), [[0]], (0, None), object(),
        ]
        for place in odd:
            self.answers(shows_kind(writing, Kindless(place)), False)

    def test_exchanged_names(self):
        for text in (
            "of f of x to f x", "to f x", "of x of y x", "to to k a b", "of a of b of c to to a c to b c", "of x y",
            "of a to b a",
        ):
            writing = read_writing(text)
            paper = kind_of(writing)
            right = reference.numbered([reference.named_kind(paper.parts, "")])[0] if not paper.free else None
            self.assertIn(right, (None, paper.parts))
            count = 1 + max(number for number in range(9) if str(number) in repr(paper.parts))
            for numbers in itertools.product(range(count + 1), repeat=count):
                kind = reference.put_in_kind(paper.kind, numbers)
                free = [(name, reference.put_in_kind(part, numbers)) for name, part in paper.free]
                self.answers(shows_kind(writing, Kinded(kind, free)), numbers == tuple(range(count)))

    def test_bent_kinds(self):
        for writing in DRAWN[:120]:
            paper = kind_of(writing)
            if not paper:
                continue
            for kind in ("o", 0, 1, (paper.kind, paper.kind), (paper.kind,), None, True, "", -1, ("o", "o"), 10 ** 50):
                self.answers(shows_kind(writing, Kinded(kind, paper.free)), kind == paper.kind and kind is not True)
            for part, kind in paper.free:
                for other in ("o", (kind, kind), None, (kind,), 9, "x"):
                    free = [(name, other if name == part else own) for name, own in paper.free]
                    self.answers(shows_kind(writing, Kinded(paper.kind, free)), False)

    def test_bent_pairs(self):
        for text in ("to f x", "to to k a b", "x", "of x y", "to y of x z"):
            writing = read_writing(text)
            kind, free = kind_of(writing).parts
            self.answers(shows_kind(writing, Kinded(kind, free)), True)
            bent = [
                (), free[:-1], free[1:] + (("other", 0),), free + free, free + free[-1:], free + (("zz", 9),), None, {},
                dict(free), [list(free)], "f", 0, [name for name, _ in free], [(kind, name) for name, kind in free],
                [(name, kind, kind) for name, kind in free], [(name,) for name, _ in free], [None] * len(free),
                [(name + "1", kind) for name, kind in free], [(None, kind) for _, kind in free], free + (None,),
                [name + "0" for name, _ in free], [((name,), kind) for name, kind in free],
            ]
            if len(free) > 1:
                bent.append(free[::-1])
            for value in bent:
                self.answers(shows_kind(writing, Kinded(kind, value)), False)

    def test_truths_for_numbers(self):
        writing = read_writing("to f x")
        self.answers(shows_kind(writing, Kinded(0, [("f", (1, 0)), ("x", 1)])), True)
        for kind, one, two, three in itertools.product((0, False), (1, True), (0, False), (1, True)):
            is_right = not any(isinstance(number, bool) for number in (kind, one, two, three))
            self.answers(shows_kind(writing, Kinded(kind, [("f", (one, two)), ("x", three)])), is_right)
        self.answers(shows_kind(("of", "x", "x"), Kinded((False, False), ())), False)
        self.answers(shows_kind(("of", "x", "x"), Kinded((0.0, 0.0), ())), False)
        back = read_writing("of n to n n")
        self.answers([shows_kind(back, Kindless([step])) for step in (0, False, 0.0, "0")], [True, False, False, False])

    def test_one_for_the_other(self):
        for writing in DRAWN[:80]:
            if kind_of(writing):
                for place in places_of(writing):
                    self.answers(shows_kind(writing, Kindless(place)), False)
            else:
                for kind in (0, (0, 0), "o", (0, 1)):
                    self.answers(shows_kind(writing, Kinded(kind, ())), False)
                    self.answers(shows_kind(writing, Kinded(kind, [("x", 0)])), False)

    def test_other_values(self):
        for writing in (("of", "x", "x"), read_writing("of n to n n"), read_writing("to n n")):
            for value in NO_PAPERS:
                self.answers(shows_kind(writing, value), False)
        self.answers(shows_kind(("of", "x", "x"), OtherKinded((0, 0), ())), False)

    def test_no_writings(self):
        for value in NO_WRITINGS:
            self.refuses(BadWriting, ["writing"], shows_kind, value, None)
            self.refuses(BadWriting, ["writing"], shows_kind, value, Kinded(0, ()))

    def test_by_name(self):
        self.answers(shows_kind(value=Kinded((0, 0), []), writing=["of", "x", "x"]), True)

    def test_great_ones(self):
        for writing in (
            put(tower(101, "x", "w"), "w", tower(100)), put(chain(101, "x", "w"), "w", chain(100)),
            put(tower(150, "u", "w"), "w", put(chain(40, "f", "v"), "v", ("to", "z", "z"))),
        ):
            paper = kind_of(writing)
            self.answers(shows_kind(writing, paper), True)
            self.answers(shows_kind(writing, Kindless(())), False)
            self.answers(shows_kind(writing, Kinded((0, 0), ())), False)


if __name__ == "__main__":
    unittest.main()
