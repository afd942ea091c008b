import unittest

from timesagain.checks import are_numbers, is_integer, is_name, is_within
from timesagain.papers import Denial, Paper

GREAT = 10 ** 1500
INTEGERS = [0, 1, -1, 2 ** 31, -2 ** 63, GREAT, -GREAT]
OTHERS = [
    None, True, False, "", "0", "1", "a", b"1", 1.0, [], [1], (), (0,), {}, {1: 2}, {1}, range(3),
    Paper("note", 1), Denial("note"), int, object(),
]


class Checks(unittest.TestCase):
    def check(self, answer, expected):
        """The answer is just True or False: 1 and 0 would be equal to them."""
        self.assertIs(answer, expected)


class Integers(Checks):
    def test_integers(self):
        for value in INTEGERS:
            self.check(is_integer(value), True)

    def test_others(self):
        for value in OTHERS:
            with self.subTest(value=value):
                self.check(is_integer(value), False)

    def test_by_name(self):
        self.check(is_integer(value=3), True)


class Within(Checks):
    def test_bounds(self):
        for least, most in ((0, 3), (-2, 5), (7, 7), (-GREAT, GREAT), (GREAT, GREAT + 1)):
            with self.subTest(least=least % 1000, most=most % 1000):
                self.check(is_within(least, least, most), True)
                self.check(is_within(most, least, most), True)
                self.check(is_within(least - 1, least, most), False)
                self.check(is_within(most + 1, least, most), False)

    def test_nothing_within(self):
        for value in (2, 3, 4, 5):
            self.check(is_within(value, 4, 3), False)

    def test_no_least(self):
        for value, expected in ((-GREAT, True), (2, True), (3, True), (4, False), (GREAT, False)):
            self.check(is_within(value, None, 3), expected)

    def test_no_most(self):
        for value, expected in ((-GREAT, False), (2, False), (3, True), (4, True), (GREAT, True)):
            self.check(is_within(value, 3, None), expected)

    def test_nought_is_a_bound(self):
        self.check(is_within(-1, 0, None), False)
        self.check(is_within(0, 0, None), True)
        self.check(is_within(1, None, 0), False)
        self.check(is_within(0, None, 0), True)

    def test_no_bounds(self):
        for value in INTEGERS:
            self.check(is_within(value, None, None), True)

    def test_no_integers(self):
        for value in OTHERS:
            for least, most in ((None, None), (0, 1), (0, None), (None, 1)):
                with self.subTest(value=value, least=least, most=most):
                    self.check(is_within(value, least, most), False)

    def test_by_name(self):
        self.check(is_within(most=3, least=2, value=2), True)
        self.check(is_within(1, most=3, least=2), False)


class Numbers(Checks):
    def test_numbers(self):
        for value in ([], (), [0], (0,), [0, 7], (7, 0, 7), [GREAT], list(range(1999))):
            self.check(are_numbers(value), True)

    def test_what_stands_within(self):
        for wrong in [-1, -GREAT, *OTHERS]:
            for value in ([wrong], (wrong,), [0, wrong], (wrong, 0), [0, wrong, 1]):
                with self.subTest(value=value):
                    self.check(are_numbers(value), False)

    def test_no_lists(self):
        for value in (None, True, 0, 3, "", "01", b"", b"01", {}, {0: 1}, {0}, range(2), Paper("note", 0)):
            with self.subTest(value=value):
                self.check(are_numbers(value), False)

    def test_by_name(self):
        self.check(are_numbers(value=[0]), True)


class Names(Checks):
    def test_names(self):
        for value in ("a", "z", "x", "a7", "z0", "a9b", "abcdefghijkl", "a12345678901", "mnopqrstuvwx", "o", "t", "f"):
            with self.subTest(value=value):
                self.check(is_name(value), True)

    def test_each_sign(self):
        small, digits = "abcdefghijklmnopqrstuvwxyz", "0123456789"
        for number in range(1000):
            sign = chr(number)
            with self.subTest(number=number):
                self.check(is_name(sign), sign in small)
                self.check(is_name("a" + sign), sign in small + digits)
                self.check(is_name("a" + sign + "a"), sign in small + digits)

    def test_length(self):
        for length in range(1, 13):
            self.check(is_name("a" * length), True)
        for length in (0, 13, 14, 20000):
            self.check(is_name("a" * length), False)
        self.check(is_name("a123456789012"), False)

    def test_of_and_to(self):
        for value in ("of", "to"):
            self.check(is_name(value), False)
        for value in ("off", "of1", "too", "to0", "ofto", "oof", "fo", "ot", "tof", "t0", "o0"):
            self.check(is_name(value), True)

    def test_wrong_strings(self):
        wrong = [
            "", " ", "0", "7a", "A", "Z", "aB", "of x", "a b", " a", "a ", "a\n", "\n", "\na", "a\t", "_", "_a", "a_",
            "a-", "a.b", "a:", "\u00e4", "a\u00e4", "a\u0663", "\u0661", "a\u00b2", "\u0430", "a\u017f", "\uff41",
            "a\uff11", "a\x00", "ab\u0301",
        ]
        for value in wrong:
            with self.subTest(value=value):
                self.check(is_name(value), False)

    def test_no_strings(self):
        for value in [0, 7, *INTEGERS, b"a", ["a"], ("a",), {"a": 1}, None, True, False, Paper("a"), object()]:
            with self.subTest(value=value):
                self.check(is_name(value), False)

    def test_by_name(self):
        self.check(is_name(value="a"), True)


class Examples(unittest.TestCase):
    def test_the_example(self):
        answers = [
            is_integer(True), is_within(3, None, 3), are_numbers([0, 7]), are_numbers([-1]), are_numbers("01"),
            is_name("a7"), is_name("A"), is_name("of"),
        ]
        self.assertEqual(answers, [False, True, True, False, False, True, False, False])


if __name__ == "__main__":
    unittest.main()
