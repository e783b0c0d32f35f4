"""The examples of README.md, line by line."""

import builtins
import doctest
import unittest
from pathlib import Path


class Readme(unittest.TestCase):
    def test_examples(self):
        # What an example shows is kept there, where test_language.py would find it.
        self.addCleanup(vars(builtins).pop, "_", None)
        failed, many = doctest.testfile(str(Path(__file__).parent.parent / "README.md"), module_relative=False)
        self.assertEqual(failed, 0)
        self.assertGreater(many, 20)


if __name__ == "__main__":
    unittest.main()
