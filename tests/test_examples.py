"""The examples of the interface, which stand in examples.txt."""

import doctest
import pathlib
import unittest

EXAMPLES = pathlib.Path(__file__).parent / "examples.txt"


class ExamplesTest(unittest.TestCase):

    def test_all_examples(self):
        sections = EXAMPLES.read_text(encoding="utf-8").split("\n== ")[1:]
        for section in sections:
            heading = section.partition("\n")[0]
            names = {}
            for example in doctest.DocTestParser().get_examples(section):
                with self.subTest(heading=heading, line=example.lineno):
                    self.run_example(example, names)
            self.assertTrue(names, heading)

    def run_example(self, example, names):
        # A runner of doctest would leave the name _ behind among the builtins.
        if example.want:
            self.assertEqual(repr(eval(example.source, names)) + "\n", example.want)
        else:
            exec(example.source, names)


if __name__ == "__main__":
    unittest.main()
