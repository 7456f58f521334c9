"""The examples of the interface, which stand in examples.txt."""

import doctest
import pathlib
import unittest

EXAMPLES = pathlib.Path(__file__).parent / "examples.txt"


class ExamplesTest(unittest.TestCase):

    def test_all_examples(self):
        sections = EXAMPLES.read_text(encoding="utf-8").split("\n== ")[1:]
        for section in sections:
            heading = section.partition("\n")[0]
            with self.subTest(heading=heading):
                example = doctest.DocTestParser().get_doctest(section, {}, heading, None, 0)
                self.assertTrue(example.examples)
                told = []
                doctest.DocTestRunner(verbose=False).run(example, out=told.append)
                self.assertEqual("".join(told), "")


if __name__ == "__main__":
    unittest.main()
