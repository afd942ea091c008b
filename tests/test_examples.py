"""The examples that the interface gives, heading by heading, in examples.txt.

A line behind `>>> ` is run; the one below it tells the answer, or what the call raises, and with which fields.
"""

import importlib
import pathlib
import unittest

from timesagain.errors import AgainError

LINES = (pathlib.Path(__file__).resolve().parent / "examples.txt").read_text(encoding="utf-8").splitlines()
MARK = ">>> "


def examples():
    """Each example with its heading and the line below it, None without one."""
    found = []
    heading = None
    for line, below in zip(LINES, LINES[1:] + [""]):
        if line.startswith("## "):
            heading = line[3:]
        elif line.startswith(MARK):
            found.append((heading, line[len(MARK):], None if below[:3] in ("", "## ", MARK[:3]) else below))
    return found


def public_names(module):
    """What the module defines itself."""
    return {name: value for name, value in vars(module).items() if getattr(value, "__module__", "") == module.__name__}


class Examples(unittest.TestCase):
    def test_each(self):
        names = public_names(importlib.import_module("timesagain.errors"))
        for heading, source, below in examples():
            names.update(public_names(importlib.import_module(f"timesagain.{heading}")))
            with self.subTest(heading=heading, source=source):
                if below is None:
                    exec(source, names)
                elif below.startswith("raises "):
                    self.check_raised(source, below[len("raises "):], names)
                else:
                    answer = eval(source, names)
                    self.assertEqual(answer, eval(below, names))
                    self.assertEqual(repr(answer), repr(eval(below, names)))

    def check_raised(self, source, told, names):
        with self.assertRaises(AgainError) as caught:
            eval(source, names)
        if "(" not in told:
            self.assertIs(type(caught.exception), names[told])
            return
        expected = eval(told, names)
        self.assertIs(type(caught.exception), type(expected))
        self.assertEqual(repr(vars(caught.exception)), repr(vars(expected)))

    def test_there_are_many(self):
        self.assertGreater(len(examples()), 20)
        self.assertTrue(all(heading for heading, _, _ in examples()))


if __name__ == "__main__":
    unittest.main()
