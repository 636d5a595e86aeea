"""[2] and the interface: the errors, their fields and what they tell."""

import unittest

from bestround import errors
from bestround.errors import BadCount, BadText, Empty, GateError, NoBack, NoEntry, NoGate, NoName, NoOrder, NotBest

FIELDS = {
    BadCount: ("what", "count"), NoOrder: (), NoGate: ("index",), NotBest: (), NoName: ("name",),
    NoEntry: ("name",), Empty: (), NoBack: (), BadText: ("place",),
}
VALUES = (0, -7, 10 ** 5000, "", "some words", (), (1, ("a", None)), None)


class ErrorsTest(unittest.TestCase):
    def test_every_class_derives_directly_from_the_base(self):
        self.assertEqual(GateError.__bases__, (ValueError,))
        for kind in FIELDS:
            self.assertEqual(kind.__bases__, (GateError,))

    def test_there_are_no_other_errors(self):
        found = {thing for thing in vars(errors).values() if isinstance(thing, type)}
        self.assertEqual(found, set(FIELDS) | {GateError})

    def test_told(self):
        for kind, fields in FIELDS.items():
            error = kind(*[1] * len(fields))
            self.assertEqual(error.told(), "refused " + kind.__name__.lower())

    def test_fields_keep_what_they_are_given(self):
        for kind, fields in FIELDS.items():
            for value in VALUES:
                by_place = kind(*[value] * len(fields))
                by_name = kind(**{field: value for field in fields})
                for error in (by_place, by_name):
                    self.assertEqual(vars(error), {field: value for field in fields})

    def test_fields_are_in_order(self):
        error = BadCount("gates", 9)
        self.assertEqual((error.what, error.count), ("gates", 9))

    def test_errors_are_equal_to_themselves_alone(self):
        for kind, fields in FIELDS.items():
            one, other = kind(*[1] * len(fields)), kind(*[1] * len(fields))
            self.assertTrue(one == one)
            self.assertFalse(one == other)
            self.assertTrue(one != other)


if __name__ == "__main__":
    unittest.main()
