"""[7], [8]: the path of an order, exchanges, and the first gain."""

import random
import unittest
from fractions import Fraction
from itertools import permutations

from bestround.gates import Gate, line
from bestround.paths import Exchange, gain, points
from helpers import (DOC_GATES, NO_ORDER, amounts, arrow_of, bad_count, drawn_gates, few_gates, pair, parallel_gates,
                     raised)

GATE = Gate((1, 2), (3, 1))
NOTHING = Gate((1, 1), (0, 1))


def wanted_path(gates, order):
    path = [(Fraction(0), Fraction(0))]
    for place, index in enumerate(order):
        factor = Fraction(1)
        for later in order[place + 1:]:
            factor *= Fraction(*gates[later].factor)
        across, up = arrow_of(gates[index])
        path.append((path[-1][0] + across * factor, path[-1][1] + up * factor))
    return [(pair(across), pair(up)) for across, up in path]


def wanted_gain(known, order):
    """Try all exchanges in the order that the document names, by the amounts themselves."""
    many = len(order)
    for begin in range(many):
        for middle in range(begin + 1, many):
            for end in range(middle + 1, many + 1):
                other = order[:begin] + order[middle:end] + order[begin:middle] + order[end:]
                if known[other] > known[order]:
                    return Exchange(begin, middle, end, pair(known[other] - known[order]))
    return None


class PointsTest(unittest.TestCase):
    def test_document(self):
        wanted = [((0, 1), (0, 1)), ((1, 1), (6, 1)), ((1, 1), (8, 1)), ((0, 1), (7, 1))]
        self.assertEqual(points(DOC_GATES, [0, 1, 2]), wanted)

    def test_one_gate(self):
        self.assertEqual(points([GATE], [0]), [((0, 1), (0, 1)), ((1, 2), (3, 1))])

    def test_gates_that_change_nothing_stand_still(self):
        self.assertEqual(points([NOTHING, NOTHING], (1, 0)), [((0, 1), (0, 1))] * 3)

    def test_kinds(self):
        path = points(list(DOC_GATES), (2, 0, 1))
        self.assertIsInstance(path, list)
        for point in path:
            self.assertIsInstance(point, tuple)
            for fraction in point:
                self.assertIsInstance(fraction, tuple)

    def test_lists_and_tuples(self):
        wanted = wanted_path(DOC_GATES, (1, 2, 0))
        for gates in (DOC_GATES, list(DOC_GATES)):
            for order in ((1, 2, 0), [1, 2, 0]):
                self.assertEqual(points(gates, order), wanted)

    def test_the_list_belongs_to_the_caller(self):
        gates, order = list(DOC_GATES), [0, 1, 2]
        first = points(gates, order)
        kept = list(first)
        first.clear()
        self.assertEqual(points(gates, order), kept)
        self.assertEqual((gates, order), (list(DOC_GATES), [0, 1, 2]))

    def test_against_other_arithmetic(self):
        draw = random.Random(11)
        for count in (1, 2, 3, 4, 6, 8):
            gates = drawn_gates(draw, count)
            order = draw.sample(range(count), count)
            path = points(gates, order)
            self.assertEqual(path, wanted_path(gates, order))
            self.assertEqual(len(path), count + 1)

    def test_the_last_point_is_the_arrow_of_the_line(self):
        gates = drawn_gates(random.Random(12), 4)
        for order in permutations(range(4)):
            whole = line(gates, order)
            across, up = points(gates, order)[-1]
            self.assertEqual(Fraction(*across), 1 - Fraction(*whole.factor))
            self.assertEqual(up, whole.amount)


class ExchangeTest(unittest.TestCase):
    def test_fields(self):
        exchange = Exchange(0, 1, 2, [2, 4])
        self.assertEqual((exchange.begin, exchange.middle, exchange.end, exchange.worth), (0, 1, 2, (1, 2)))
        self.assertIsInstance(exchange.worth, tuple)

    def test_numbers_that_do_not_fit(self):
        exchange = Exchange(9, -4, 10 ** 30, (-6, 3))
        self.assertEqual((exchange.begin, exchange.middle, exchange.end, exchange.worth), (9, -4, 10 ** 30, (-2, 1)))
        self.assertEqual(Exchange(0, 0, 0, (0, 9)).worth, (0, 1))

    def test_a_later_change_to_the_list_has_no_effect(self):
        worth = [2, 4]
        exchange = Exchange(0, 1, 2, worth)
        worth[0] = 7
        self.assertEqual(exchange.worth, (1, 2))

    def test_equality(self):
        one = Exchange(0, 1, 2, (1, 2))
        self.assertTrue(one == Exchange(0, 1, 2, [2, 4]))
        for other in (Exchange(1, 1, 2, (1, 2)), Exchange(0, 2, 2, (1, 2)), Exchange(0, 1, 3, (1, 2)),
                      Exchange(0, 1, 2, (1, 3)), (0, 1, 2, (1, 2)), None, GATE):
            self.assertFalse(one == other)
            self.assertTrue(one != other)


class GainTest(unittest.TestCase):
    def check_all_orders(self, gates):
        known = amounts(gates)
        greatest = max(known.values())
        for order, amount in known.items():
            found = gain(gates, order)
            self.assertEqual(found is None, amount == greatest)
            self.assertEqual(found, wanted_gain(known, order))

    def test_document(self):
        self.assertEqual(gain(DOC_GATES, [2, 1, 0]), Exchange(0, 1, 2, (1, 2)))
        self.assertIsNone(gain(DOC_GATES, [0, 1, 2]))

    def test_result_is_an_exchange(self):
        found = gain(list(DOC_GATES), (2, 1, 0))
        self.assertIsInstance(found, Exchange)
        self.assertEqual((found.begin, found.middle, found.end, found.worth), (0, 1, 2, (1, 2)))
        self.assertIsInstance(found.worth, tuple)

    def test_a_gain_by_longer_blocks_alone(self):
        gates = [Gate((1, 2), (0, 1)), Gate((1, 1), (-12, 1)), Gate((2, 1), (0, 1)), Gate((1, 1), (6, 1))]
        seen = set()
        known = amounts(gates)
        for order in known:
            found = gain(gates, order)
            if found is not None:
                seen.add((found.middle - found.begin, found.end - found.middle))
        self.assertIn((1, 2), seen)
        self.check_all_orders(gates)

    def test_arguments_are_not_changed(self):
        gates, order = list(DOC_GATES), [2, 1, 0]
        gain(gates, order)
        self.assertEqual((gates, order), (list(DOC_GATES), [2, 1, 0]))

    def test_one_gate_and_equal_gates(self):
        self.assertIsNone(gain([GATE], [0]))
        self.assertIsNone(gain([GATE] * 8, [3, 1, 2, 0, 7, 6, 5, 4]))
        self.assertIsNone(gain([NOTHING] * 3, [2, 1, 0]))

    def test_all_lists_of_up_to_three_gates(self):
        for count in (1, 2, 3):
            for gates in few_gates(count):
                self.check_all_orders(gates)

    def test_longer_lists(self):
        draw = random.Random(13)
        for count in (4, 4, 4, 4, 5):
            self.check_all_orders(drawn_gates(draw, count))
            self.check_all_orders(parallel_gates(draw, count))
            self.check_all_orders(draw.choice(few_gates(2)) + draw.choice(few_gates(count - 2)))

    def test_eight_gates(self):
        draw = random.Random(14)
        gates = drawn_gates(draw, 8)
        order = list(range(8))
        amount = Fraction(*line(gates, order).amount)
        while (found := gain(gates, order)) is not None:
            order = (order[:found.begin] + order[found.middle:found.end] + order[found.begin:found.middle]
                     + order[found.end:])
            amount += Fraction(*found.worth)
            self.assertGreater(Fraction(*found.worth), 0)
            self.assertEqual(line(gates, order).amount, pair(amount))
        for _ in range(300):
            other = draw.sample(range(8), 8)
            self.assertLessEqual(Fraction(*line(gates, other).amount), amount)


class WrongArgumentsTest(unittest.TestCase):
    def check(self, gates, order, wanted):
        for function in (points, gain):
            for sequence in (tuple(order), list(order)):
                self.assertEqual(raised(function, gates, sequence), wanted)

    def test_numbers_of_gates(self):
        self.check([], [], bad_count("gates", 0))
        self.check([GATE] * 9, range(9), bad_count("gates", 9))
        self.check((GATE,) * 10, [5], bad_count("gates", 10))
        self.check([], [0, 0], bad_count("gates", 0))
        self.check([GATE], [0], None)
        self.check([GATE] * 8, range(8), None)

    def test_no_orders(self):
        for order in ([], [0, 1], [0, 1, 2, 3], [0, 1, 2, 2], [0, 1, 1], [0, 1, -1], [0, 1, 3], [1, 2, 3]):
            self.check(DOC_GATES, order, NO_ORDER)


if __name__ == "__main__":
    unittest.main()
