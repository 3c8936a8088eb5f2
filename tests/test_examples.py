"""The examples of the document."""

import doctest
import pathlib
import unittest


class ExamplesTest(unittest.TestCase):
    def test_examples(self):
        path = pathlib.Path(__file__).with_name("examples.txt")
        outcome = doctest.testfile(str(path), module_relative=False)
        self.assertEqual(outcome.failed, 0)
        self.assertEqual(outcome.attempted, path.read_text().count("\n>>> "))


if __name__ == "__main__":
    unittest.main()
