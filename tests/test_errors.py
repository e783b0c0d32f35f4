"""The errors: what they derive from, and what they keep."""

import unittest
from copy import copy

from landpoints import errors

KEPT = {"NoArea": "name", "NoDeed": "place", "NoOffice": "number", "NoParcel": "name", "NoPoint": "place",
        "BadLine": "number", "BadText": "piece", "Known": "name"}
UNDER_LOOKUP = ("NoArea", "NoDeed", "NoOffice", "NoParcel", "NoPoint", "NothingDone")
UNDER_VALUE = ("BadLine", "BadText", "CanNot", "Known", "Unfit")


class Errors(unittest.TestCase):
    def test_bases(self):
        for names, base in ((UNDER_LOOKUP, LookupError), (UNDER_VALUE, ValueError)):
            for name in names:
                with self.subTest(name=name):
                    error = getattr(errors, name)
                    self.assertEqual(error.__bases__, (base,))
                    self.assertEqual(error.__module__, "landpoints.errors")

    def test_no_others(self):
        found = [name for name, value in vars(errors).items() if isinstance(value, type)]
        self.assertEqual(sorted(found), sorted(UNDER_LOOKUP + UNDER_VALUE))

    def test_values_are_kept(self):
        for name, attribute in KEPT.items():
            for value in ("fen", "", 7, -1, 10 ** 30):
                with self.subTest(name=name, value=value):
                    error = getattr(errors, name)
                    self.assertEqual(vars(error(value)), {attribute: value})
                    self.assertEqual(vars(error(**{attribute: value})), {attribute: value})

    def test_copies_keep_the_values(self):
        for name, attribute in KEPT.items():
            with self.subTest(name=name):
                for one in (getattr(errors, name)(7), getattr(errors, name)(**{attribute: 7})):
                    self.assertEqual(vars(copy(one)), {attribute: 7})

    def test_without_values(self):
        for name in ("NothingDone", "CanNot", "Unfit"):
            with self.subTest(name=name):
                self.assertEqual(vars(getattr(errors, name)()), {})

    def test_a_value_is_wanted(self):
        for name in KEPT:
            with self.subTest(name=name):
                with self.assertRaises(TypeError):
                    getattr(errors, name)()

    def test_raised_and_caught(self):
        for name in UNDER_LOOKUP + UNDER_VALUE:
            error = getattr(errors, name)
            values = (3,) if name in KEPT else ()
            with self.subTest(name=name):
                with self.assertRaises(LookupError if name in UNDER_LOOKUP else ValueError) as caught:
                    raise error(*values)
                self.assertIs(type(caught.exception), error)


if __name__ == "__main__":
    unittest.main()
