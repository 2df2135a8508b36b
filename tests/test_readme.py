"""What README.md shows is what the program answers."""

import doctest
import pathlib
import unittest

README = pathlib.Path(__file__).resolve().parent.parent / "README.md"


class Readme(unittest.TestCase):
    def test_examples(self):
        done = doctest.testfile(str(README), module_relative=False, encoding="utf-8")
        self.assertEqual((0, 3), (done.failed, done.attempted))
