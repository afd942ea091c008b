import unittest

from timesagain.papers import Denial, Paper, fixed


class Noted(Paper):
    """A class below Paper, as those of answers are made."""

    def __init__(self, kind, free):
        Paper.__init__(self, "noted", kind, free)
        self.kind, self.free = self.parts


class Marked(Paper):
    """Another one, with parts like those of Noted."""

    def __init__(self, kind, free):
        Paper.__init__(self, "noted", kind, free)
        self.kind, self.free = self.parts


class Refused(Denial):
    def __init__(self, place):
        super().__init__("refused", place)
        self.place = fixed(place)


class Denied(Denial):
    def __init__(self, place):
        super().__init__("refused", place)
        self.place = fixed(place)


class Plain(Paper):
    """A class that adds nothing."""


class Bare(Denial):
    """A class that adds nothing."""


def nested(depth, wrap):
    value = wrap(["end"])
    for _ in range(depth):
        value = wrap([value])
    return value


class Fixed(unittest.TestCase):
    def check(self, value, expected):
        """Equal, and tuples where tuples are expected: True is no 1, and a list no tuple."""
        self.assertEqual(repr(fixed(value)), repr(expected))
        self.assertEqual(fixed(value), expected)

    def test_lists_and_tuples(self):
        self.check([], ())
        self.check((), ())
        self.check([1, 2], (1, 2))
        self.check((1, 2), (1, 2))
        self.check([[]], ((),))
        self.check(([],), ((),))
        self.check([1, [None, (2, [])], "a"], (1, (None, (2, ())), "a"))
        self.check(([1, ([2], [3, [[4]]])],), ((1, ((2,), (3, ((4,),)))),))

    def test_deep(self):
        for depth in (60, 200):
            self.assertEqual(fixed(nested(depth, list)), nested(depth, tuple))
            self.assertEqual(fixed(nested(depth, tuple)), nested(depth, tuple))

    def test_long(self):
        self.assertEqual(fixed(list(range(2000))), tuple(range(2000)))

    def test_other_values_stay(self):
        values = [0, -3, 10 ** 1500, True, False, None, "", "ab", b"ab", {"a": [1]}, {1}, Paper("note", [1]), object()]
        for value in values:
            with self.subTest(value=value):
                self.assertIs(fixed(value), value)
                self.assertIs(fixed([value])[0], value)
                self.assertIs(fixed((1, [value]))[1][0], value)
        inner = [1]
        self.assertIs(fixed([{"a": inner}])[0]["a"], inner)
        self.assertEqual(inner, [1])

    def test_nothing_changes(self):
        value = [1, [2, (3, [4])]]
        answer = fixed(value)
        self.assertEqual(value, [1, [2, (3, [4])]])
        value[1].append(5)
        value.append(6)
        self.assertEqual(answer, (1, (2, (3, (4,)))))

    def test_by_name(self):
        self.assertEqual(fixed(value=[1]), (1,))


class Parts(unittest.TestCase):
    def test_word_and_parts(self):
        for kind in (Paper, Denial, Plain, Bare):
            with self.subTest(kind=kind):
                self.assertEqual((kind("note").word, kind("note").parts), ("note", ()))
                self.assertEqual((kind("a", 1).word, kind("a", 1).parts), ("a", (1,)))
                self.assertEqual(kind("", [1]).parts, ((1,),))
                self.assertEqual(kind("a", 1, None, "b").parts, (1, None, "b"))
                self.assertEqual(kind("a", 1, [2, ([3],)], (), []).parts, (1, (2, ((3,),)), (), ()))
                self.assertEqual((kind(word="b").word, kind(word="b").parts), ("b", ()))

    def test_other_parts_stay(self):
        for value in (None, True, 7, "ab", {"a": [1]}, Paper("note"), object()):
            for kind in (Paper, Denial):
                self.assertIs(kind("note", value).parts[0], value)
                self.assertIs(kind("note", [value]).parts[0][0], value)

    def test_parts_stay(self):
        for kind in (Paper, Denial):
            inner = [2]
            passed = [1, inner]
            paper = kind("note", passed, inner)
            inner.append(3)
            passed.clear()
            self.assertEqual(paper.parts, ((1, (2,)), (2,)))
            self.assertEqual((passed, inner), ([], [2, 3]))

    def test_classes_below(self):
        passed = [[1], 2]
        noted = Noted(kind=passed, free=[])
        passed.append(3)
        self.assertEqual((noted.word, noted.parts, noted.kind, noted.free), ("noted", (((1,), 2), ()), ((1,), 2), ()))
        refused = Refused([0, 1])
        self.assertEqual((refused.word, refused.parts, refused.place), ("refused", ((0, 1),), (0, 1)))


class Truth(unittest.TestCase):
    def test_papers_are_true(self):
        for paper in (Paper("note"), Paper(""), Paper("note", 0), Paper("note", False), Noted(0, ()), Plain("note")):
            self.assertIs(bool(paper), True)

    def test_denials_are_false(self):
        refused = (Refused((1,)), Bare("note", 1))
        for denial in (Denial("note"), Denial(""), Denial("note", 1), Denial("note", True), *refused):
            self.assertIs(bool(denial), False)

    def test_denials_are_papers(self):
        self.assertIsInstance(Denial("note"), Paper)
        self.assertNotIsInstance(Paper("note"), Denial)
        self.assertIsInstance(Refused(()), Denial)
        self.assertEqual(Denial.__bases__, (Paper,))


class Equality(unittest.TestCase):
    def equal(self, one, other):
        self.assertIs(one == other, True)
        self.assertIs(other == one, True)
        self.assertIs(one != other, False)
        self.assertIs(other != one, False)

    def unequal(self, one, other):
        self.assertIs(one == other, False)
        self.assertIs(other == one, False)
        self.assertIs(one != other, True)
        self.assertIs(other != one, True)

    def test_one_class(self):
        for kind in (Paper, Denial, Plain, Bare):
            with self.subTest(kind=kind):
                self.equal(kind("note"), kind("note"))
                self.equal(kind("note", [1]), kind("note", (1,)))
                self.equal(kind("note", 1, [2, [3]]), kind("note", 1, (2, (3,))))
                self.unequal(kind("note"), kind("other"))
                self.unequal(kind("note", 1), kind("other", 1))
                self.unequal(kind("note", 1), kind("note", 2))
                self.unequal(kind("note", 1), kind("note"))
                self.unequal(kind("note", 1), kind("note", 1, 1))
                self.unequal(kind("note", 1, 2), kind("note", 2, 1))
                self.unequal(kind("note", 1, 2), kind("note", (1, 2)))
                self.unequal(kind("note", 1), kind("note", "1"))

    def test_parts_as_python_compares_them(self):
        self.equal(Paper("note", 1), Paper("note", True))
        self.equal(Denial("note", [0]), Denial("note", (False,)))
        self.equal(Paper("note", {"a": 1}), Paper("note", {"a": 1}))
        self.equal(Paper("note", Paper("a", [1])), Paper("note", Paper("a", (1,))))
        self.unequal(Paper("note", Paper("a")), Paper("note", Denial("a")))

    def test_unlike_classes(self):
        for parts in ((), (1,), ([1], None)):
            papers = [kind("note", *parts) for kind in (Paper, Denial, Plain, Bare)]
            for at, one in enumerate(papers):
                for other in papers[at + 1:]:
                    self.unequal(one, other)

    def test_classes_below(self):
        self.equal(Noted([1], 2), Noted((1,), 2))
        self.unequal(Noted(1, 2), Noted(1, 3))
        self.unequal(Noted(1, 2), Marked(1, 2))
        self.unequal(Noted(1, 2), Paper("noted", 1, 2))
        self.equal(Refused([1]), Refused((1,)))
        self.unequal(Refused((1,)), Refused((0,)))
        self.unequal(Refused((1,)), Denied((1,)))
        self.unequal(Refused((1,)), Denial("refused", (1,)))
        self.unequal(Refused((1,)), Paper("refused", (1,)))

    def test_no_papers(self):
        pairs = [("note", 1), ["note", 1], {"word": "note", "parts": (1,)}, Paper]
        for value in [None, True, False, 0, 1, "note", "", (), object(), *pairs]:
            for paper in (Paper("note", 1), Denial("note", 1), Paper(""), Denial("")):
                with self.subTest(value=value, paper=paper.word):
                    self.unequal(paper, value)

    def test_among_others(self):
        papers = [Denial("note", 1), Paper("other", 1), Paper("note", [1])]
        self.assertIn(Paper("note", (1,)), papers)
        self.assertNotIn(Paper("note", 1), papers)
        self.assertEqual(papers.index(Paper("note", (1,))), 2)


class Examples(unittest.TestCase):
    def test_the_example(self):
        answers = [
            fixed([1, [None, (2, [])], "a"]), bool(Paper("note", [1])), bool(Denial("note")),
            Paper("note", [1]) == Paper("note", (1,)), Paper("note", 1) == Denial("note", 1),
        ]
        self.assertEqual(answers, [(1, (None, (2, ())), "a"), True, False, True, False])


if __name__ == "__main__":
    unittest.main()
