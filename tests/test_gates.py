"""[2], [3]: gates, their fields, and the errors of their constructor."""

import unittest

from bestround.gates import Gate
from helpers import bad_count, raised

LIMIT = 10 ** 6


class FieldsTest(unittest.TestCase):
    def check(self, factor, amount, wanted):
        gate = Gate(factor, amount)
        self.assertEqual((gate.factor, gate.amount), wanted)
        for fraction in (gate.factor, gate.amount):
            self.assertIsInstance(fraction, tuple)

    def test_lowest_terms(self):
        self.check((2, 4), (3, 1), ((1, 2), (3, 1)))
        self.check((6, 4), (-10, 4), ((3, 2), (-5, 2)))
        self.check((7, 7), (-9, 3), ((1, 1), (-3, 1)))
        self.check((35, 21), (22, 7), ((5, 3), (22, 7)))

    def test_zero_amount(self):
        self.check((1, 1), (0, 1), ((1, 1), (0, 1)))
        self.check((1, 1), (0, 12), ((1, 1), (0, 1)))

    def test_lists_and_tuples(self):
        self.check([2, 4], [-3, 6], ((1, 2), (-1, 2)))
        self.check((2, 4), [-3, 6], ((1, 2), (-1, 2)))
        self.check([1, 2], (-1, 2), ((1, 2), (-1, 2)))

    def test_later_changes_to_a_list_have_no_effect(self):
        factor, amount = [1, 2], [3, 1]
        gate = Gate(factor, amount)
        factor[0], amount[1] = 5, 7
        self.assertEqual((gate.factor, gate.amount), ((1, 2), (3, 1)))

    def test_arguments_are_not_changed(self):
        factor, amount = [2, 4], [-3, 6]
        Gate(factor, amount)
        self.assertEqual((factor, amount), ([2, 4], [-3, 6]))

    def test_numbers_at_the_limit(self):
        self.check((LIMIT, 1), (LIMIT, 1), ((LIMIT, 1), (LIMIT, 1)))
        self.check((1, LIMIT), (-LIMIT, 1), ((1, LIMIT), (-LIMIT, 1)))
        self.check((LIMIT, LIMIT), (-LIMIT, LIMIT), ((1, 1), (-1, 1)))
        self.check((LIMIT, LIMIT - 1), (1, LIMIT), ((LIMIT, LIMIT - 1), (1, LIMIT)))


class ErrorsTest(unittest.TestCase):
    def check(self, factor, amount, what, count):
        for kind in (tuple, list):
            self.assertEqual(raised(Gate, kind(factor), kind(amount)), bad_count(what, count))

    def test_bottom(self):
        for bottom in (0, -1, -2, -LIMIT, -LIMIT - 1):
            self.check((1, bottom), (1, 1), "bottom", bottom)
            self.check((1, 1), (1, bottom), "bottom", bottom)
            self.check((1, 1), (0, bottom), "bottom", bottom)

    def test_numbers_beyond_the_limit(self):
        self.check((LIMIT + 1, 1), (1, 1), "number", LIMIT + 1)
        self.check((1, LIMIT + 1), (1, 1), "number", LIMIT + 1)
        self.check((-LIMIT - 1, 1), (1, 1), "number", -LIMIT - 1)
        self.check((1, 1), (LIMIT + 1, 1), "number", LIMIT + 1)
        self.check((1, 1), (-LIMIT - 1, 1), "number", -LIMIT - 1)
        self.check((1, 1), (1, LIMIT + 1), "number", LIMIT + 1)
        self.check((1, 1), (10 ** 5000, 1), "number", 10 ** 5000)

    def test_numbers_count_as_they_are_passed(self):
        self.check((2 * LIMIT, 2), (1, 1), "number", 2 * LIMIT)
        self.check((1, 1), (2, 2 * LIMIT), "number", 2 * LIMIT)
        self.check((1, 1), (0, LIMIT + 1), "number", LIMIT + 1)

    def test_the_top_comes_before_the_bottom(self):
        self.check((LIMIT + 2, LIMIT + 1), (1, 1), "number", LIMIT + 2)
        self.check((1, 1), (-LIMIT - 2, LIMIT + 1), "number", -LIMIT - 2)

    def test_a_factor_that_is_not_above_zero(self):
        self.check((0, 1), (1, 1), "factor", 0)
        self.check((-1, 2), (1, 1), "factor", -1)
        self.check((-2, 4), (1, 1), "factor", -2)
        self.check((0, 5), (1, 1), "factor", 0)
        self.check((-LIMIT, 1), (1, 1), "factor", -LIMIT)

    def test_order_of_the_errors(self):
        big = LIMIT + 1
        self.check((big, 0), (big, -1), "bottom", 0)
        self.check((big, 1), (1, 0), "number", big)
        self.check((1, big), (big + 1, 0), "number", big)
        self.check((0, 1), (big, 0), "bottom", 0)
        self.check((0, 1), (1, big), "number", big)
        self.check((-1, 1), (1, -3), "bottom", -3)
        self.check((-big, 1), (1, 1), "number", -big)


class EqualityTest(unittest.TestCase):
    def test_equal_fields(self):
        self.assertTrue(Gate((1, 2), (3, 1)) == Gate([2, 4], [6, 2]))
        self.assertFalse(Gate((1, 2), (3, 1)) != Gate([2, 4], [6, 2]))

    def test_other_fields(self):
        self.assertFalse(Gate((1, 2), (3, 1)) == Gate((1, 2), (3, 2)))
        self.assertFalse(Gate((1, 2), (3, 1)) == Gate((1, 3), (3, 1)))
        self.assertTrue(Gate((1, 2), (3, 1)) != Gate((1, 3), (3, 1)))

    def test_things_of_other_kinds(self):
        gate = Gate((1, 2), (3, 1))
        for other in (((1, 2), (3, 1)), None, 1, "gate", [gate]):
            self.assertFalse(gate == other)
            self.assertFalse(other == gate)


if __name__ == "__main__":
    unittest.main()
