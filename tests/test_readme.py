"""What README.md shows is what the program tells."""

import doctest
import pathlib
import unittest


class Readme(unittest.TestCase):
    def test_its_examples(self):
        path = pathlib.Path(__file__).resolve().parent.parent / "README.md"
        told = doctest.testfile(str(path), module_relative=False)
        self.assertGreater(told.attempted, 0)
        self.assertEqual(told.failed, 0)
