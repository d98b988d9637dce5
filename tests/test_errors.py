"""[3], [15]: the error classes, their texts and fields."""

import unittest

from skipstops import errors

WITH_TEXT = """InvalidCount InvalidTable InvalidTables InvalidRing InvalidStops InvalidTrip InvalidPlace InvalidIndex
InvalidNumber InvalidPrizes InvalidRow InvalidAmounts InvalidCuts InvalidSequence InvalidShares InvalidRoads
InvalidLengths InvalidChange InvalidCommand NotSkip NoSkipRing NoTable OddStops EvenStops LastPlace
NothingToUndo""".split()
WITH_FIELDS = {"TooLarge": ["limit"], "Bending": ["one", "other"], "TooLong": ["size"], "InvalidText": ["number"]}


class Errors(unittest.TestCase):
    def test_the_root(self):
        self.assertEqual(errors.RingError.__bases__, (ValueError,))
        self.assertEqual(str(errors.RingError("some words")), "some words")

    def test_all_classes_derive_directly(self):
        for name in WITH_TEXT + list(WITH_FIELDS):
            with self.subTest(name):
                self.assertEqual(getattr(errors, name).__bases__, (errors.RingError,))
                self.assertEqual(getattr(errors, name).__module__, "skipstops.errors")

    def test_no_other_classes(self):
        found = {name for name, value in vars(errors).items() if isinstance(value, type)}
        self.assertEqual(found, {"RingError", *WITH_TEXT, *WITH_FIELDS})

    def test_texts(self):
        for name in WITH_TEXT:
            with self.subTest(name):
                self.assertEqual(str(getattr(errors, name)("a b c")), "a b c")

    def test_fields(self):
        for name, fields in WITH_FIELDS.items():
            for values in ([7, 8], [0, 10 ** 59], [None, None]):
                values = values[:len(fields)]
                with self.subTest(name, values=values):
                    made = getattr(errors, name)(*values)
                    self.assertEqual([getattr(made, field) for field in fields], values)
                    named = getattr(errors, name)(**dict(zip(fields, values)))
                    self.assertEqual([getattr(named, field) for field in fields], values)
                    self.assertIsInstance(str(made), str)

    def test_fields_are_wanted(self):
        for name, fields in WITH_FIELDS.items():
            with self.subTest(name), self.assertRaises(TypeError):
                getattr(errors, name)(*[1] * (len(fields) + 1))
            with self.subTest(name), self.assertRaises(TypeError):
                getattr(errors, name)()


if __name__ == "__main__":
    unittest.main()
