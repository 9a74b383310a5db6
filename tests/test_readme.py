"""The examples in README.md."""

import doctest
import pathlib
import unittest

from clayrings.trays import answers

README = pathlib.Path(__file__).resolve().parent.parent / "README.md"


class ReadmeTest(unittest.TestCase):
    def test_examples(self):
        told = doctest.testfile(str(README), module_relative=False, globs={"answers": answers})
        self.assertEqual(told.attempted, 2)
        self.assertEqual(told.failed, 0)


if __name__ == "__main__":
    unittest.main()
