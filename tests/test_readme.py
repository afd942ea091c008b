"""The examples in README.md come out as it says."""

import doctest
import pathlib
import unittest

README = pathlib.Path(__file__).resolve().parent.parent / "README.md"


class Readme(unittest.TestCase):
    def test_examples(self):
        text = README.read_text(encoding="utf-8").replace("```", "")
        examples = doctest.DocTestParser().get_doctest(text, {}, "README.md", "README.md", 0)
        self.assertGreater(len(examples.examples), 0)
        result = doctest.DocTestRunner().run(examples)
        self.assertEqual(result.failed, 0)


if __name__ == "__main__":
    unittest.main()
