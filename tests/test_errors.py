import unittest

from timesagain import errors, papers

FIELDS = {
    "BadWriting": ["part"],
    "BadKind": ["part"],
    "BadNumber": ["part"],
    "BadTable": ["part"],
    "Misfit": ["part"],
    "Missing": ["value"],
    "NoPlace": ["value"],
    "NoName": ["value"],
    "Impossible": ["paper"],
    "TooMany": ["what", "most"],
    "BadText": ["line", "item"],
}
BASES = {name: errors.AgainError for name in FIELDS}
BASES["NoPlace"] = BASES["NoName"] = errors.Missing

VALUES = [
    0, -1, 10 ** 6000, "many", "", [0, [0]], (0, [1]), {"a": [1]}, True, False, None, b"a",
    papers.Denial("untold", (1,)), object(),
]


def error_class(name):
    return getattr(errors, name)


def own_classes():
    return [kind for kind in vars(errors).values() if isinstance(kind, type)]


class Fields(unittest.TestCase):
    def check_fields(self, error, names, values):
        for name, value in zip(names, values):
            self.assertIs(getattr(error, name), value)

    def test_by_place_and_by_name(self):
        for name, fields in FIELDS.items():
            for at, value in enumerate(VALUES):
                values = [value, VALUES[at - 1]][:len(fields)]
                with self.subTest(name=name, at=at):
                    self.check_fields(error_class(name)(*values), fields, values)
                    named = dict(zip(fields, values))
                    self.check_fields(error_class(name)(**named), fields, values)

    def test_two_fields_by_name_in_any_order(self):
        error = errors.TooMany(most=5, what="steps")
        self.assertEqual((error.what, error.most), ("steps", 5))
        error = errors.BadText(0, item=[3])
        self.assertEqual((error.line, error.item), (0, [3]))

    def test_lists_stay_lists(self):
        self.assertEqual(errors.NoPlace([0, [0]]).value, [0, [0]])
        self.assertEqual(errors.NoPlace((0, [0])).value, (0, [0]))

    def test_no_field_is_left_out_or_added(self):
        for name, fields in FIELDS.items():
            with self.subTest(name=name):
                with self.assertRaises(TypeError):
                    error_class(name)(*range(len(fields) - 1))
                with self.assertRaises(TypeError):
                    error_class(name)(*range(len(fields) + 1))


class Classes(unittest.TestCase):
    def test_all_are_there(self):
        named = sorted(kind.__name__ for kind in own_classes())
        self.assertEqual(named, sorted([*FIELDS, "AgainError"]))

    def test_the_base(self):
        self.assertEqual(errors.AgainError.__bases__, (ValueError,))
        self.assertIsInstance(errors.AgainError(), ValueError)

    def test_each_stands_just_below_its_base(self):
        for name, base in BASES.items():
            with self.subTest(name=name):
                self.assertEqual(error_class(name).__bases__, (base,))

    def test_none_is_of_another_class(self):
        for name, fields in FIELDS.items():
            error = error_class(name)(*range(len(fields)))
            above = {errors.AgainError, BASES[name], error_class(name)}
            for kind in own_classes():
                with self.subTest(name=name, kind=kind):
                    self.assertEqual(isinstance(error, kind), kind in above)

    def test_none_is_another_error_of_python(self):
        for name, fields in FIELDS.items():
            error = error_class(name)(*range(len(fields)))
            with self.subTest(name=name):
                self.assertIsInstance(error, errors.AgainError)
                self.assertIsInstance(error, ValueError)
                python_errors = [kind for kind in type(error).__mro__ if kind.__module__ == "builtins"]
                self.assertEqual(python_errors, list(ValueError.__mro__))

    def test_each_is_raised_and_caught(self):
        for name, fields in FIELDS.items():
            for caught in (error_class(name), BASES[name], errors.AgainError, ValueError):
                with self.subTest(name=name, caught=caught):
                    with self.assertRaises(caught):
                        raise error_class(name)(*range(len(fields)))


if __name__ == "__main__":
    unittest.main()
