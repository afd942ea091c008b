"""Each name of the interface is defined in its own file, with its parameters."""

import ast
import pathlib
import unittest

PACKAGE = pathlib.Path(__file__).resolve().parent.parent / "timesagain"

FUNCTIONS = {
    "checks": {
        "is_integer": "value", "is_within": "value, least, most", "are_numbers": "value", "is_name": "value",
    },
    "papers": {"fixed": "value"},
    "writings": {
        "is_writing": "value", "signs_of": "writing", "layers_of": "writing", "free_names": "writing",
        "alike": "one, other", "put": "writing, name, other", "writing_text": "writing", "read_writing": "text",
    },
    "places": {"places_of": "writing", "part_at": "writing, place", "with_part": "writing, place, part"},
    "kinds": {
        "is_kind": "value", "number_kind": "", "reckoning_kind": "many", "kind_text": "kind", "read_kind": "text",
        "is_instance": "kind, general", "joined": "one, other", "kind_of": "writing", "reckons": "writing, many",
    },
    "check_kinds": {"shows_kind": "writing, value"},
    "steps": {"steps_of": "writing", "is_plain": "writing", "step_at": "writing, place", "plain": "writing, most"},
    "numbers": {
        "number_writing": "number", "number_in": "writing", "do": "writing, numbers", "sum_writing": "",
        "product_writing": "", "chosen_writing": "",
    },
    "polynomials": {"choices": "many", "choice_of": "numbers", "is_polynomial": "many, choice, value"},
    "tables": {
        "constant": "many, number", "place_table": "many, place", "chosen": "place, one, other",
        "greatest_power": "table", "parting": "one, other",
    },
    "meanings": {
        "table_of": "writing, many", "reckoned": "writing, numbers", "hangs_on": "writing, many",
        "noughts_only": "writing, many",
    },
    "same": {"same_numbers": "one, other, many"},
    "made": {"made_writing": "table", "put_together": "writing, writings, many"},
    "check_same": {"shows_same": "one, other, many, value"},
    "asks": {"next_ask": "many, answers", "told_by": "many, answers"},
    "fits": {"fits": "many, rows"},
}
CLASSES = {
    "errors": {
        "BadWriting": "self, part", "BadKind": "self, part", "BadNumber": "self, part", "BadTable": "self, part",
        "Misfit": "self, part", "Missing": "self, value", "NoPlace": "self, value", "NoName": "self, value",
        "Impossible": "self, paper", "TooMany": "self, what, most", "BadText": "self, line, item",
    },
    "papers": {"Paper": "self, word, *parts", "Denial": "self, word, *parts"},
    "kinds": {"Kinded": "self, kind, free", "Kindless": "self, place"},
    "steps": {"Plain": "self, writing, steps"},
    "tables": {"Table": "self, many, rows", "Same": "self", "Parted": "self, numbers"},
    "asks": {"Untold": "self, choice"},
}
METHODS = {
    "papers": {"Paper": {"__eq__": "self, other"}, "Denial": {"__eq__": "self, other"}},
    "tables": {
        "Table": {
            "__eq__": "self, other", "__str__": "self", "read": "text", "at": "self, numbers", "plus": "self, other",
            "times": "self, other", "put_in": "self, tables, many",
        },
    },
}


def defined(name):
    """The functions and classes that a file defines, by their names."""
    tree = ast.parse((PACKAGE / f"{name}.py").read_text(encoding="utf-8"))
    return {part.name: part for part in tree.body if isinstance(part, (ast.FunctionDef, ast.ClassDef))}


def methods(part):
    return {method.name: method for method in part.body if isinstance(method, ast.FunctionDef)}


class Interface(unittest.TestCase):
    def test_functions(self):
        for name, functions in FUNCTIONS.items():
            for function, parameters in functions.items():
                with self.subTest(name=name, function=function):
                    self.assertEqual(ast.unparse(defined(name)[function].args), parameters)

    def test_classes(self):
        for name, classes in CLASSES.items():
            for kind, parameters in classes.items():
                with self.subTest(name=name, kind=kind):
                    made = methods(defined(name)[kind])["__init__"]
                    self.assertEqual(ast.unparse(made.args), parameters)

    def test_methods(self):
        for name, classes in METHODS.items():
            for kind, listed in classes.items():
                with self.subTest(name=name, kind=kind):
                    own = methods(defined(name)[kind])
                    self.assertEqual({method: ast.unparse(own[method].args) for method in listed}, listed)


if __name__ == "__main__":
    unittest.main()
