"""The examples in README.md."""

import doctest
import pathlib
import unittest

README = pathlib.Path(__file__).resolve().parent.parent / "README.md"


class ReadmeTest(unittest.TestCase):
    def test_the_examples_hold(self):
        results = doctest.testfile(str(README), module_relative=False)
        self.assertEqual(0, results.failed)
        self.assertGreater(results.attempted, 0)


if __name__ == "__main__":
    unittest.main()
