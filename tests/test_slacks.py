"""[11]: how far the amount of one gate may be changed so that an order stays best."""

import random
import unittest
from fractions import Fraction
from itertools import permutations

from bestround.gates import Gate
from bestround.rounds import best
from bestround.slacks import slack
from helpers import (CLOSED, DOC_GATES, NO_ORDER, NOTHING, SPLIT, amounts, bad_count, closing_gates, drawn_gates,
                     few_gates, great_gates, mixed_gates, pair, parallel_gates, raised)

GATE = Gate((1, 2), (3, 1))
NOT_BEST = ("NotBest", {})
LITTLE = Fraction(1, 10 ** 30)
FAR = Fraction(10 ** 60)


def no_gate(index):
    return ("NoGate", {"index": index})


def parts_of(gates, order, index):
    """The amount of the order without the amount of this gate, and the weight with which that one counts."""
    amount, weight = Fraction(0), Fraction(0)
    for other in order:
        factor = Fraction(*gates[other].factor)
        amount, weight = factor * amount, factor * weight
        if other == index:
            weight += 1
        else:
            amount += Fraction(*gates[other].amount)
    return amount, weight


def wanted_slack(gates, order, index):
    """Compare the order with all others: each one sets a bound, or none."""
    amount, weight = parts_of(gates, order, index)
    least, greatest = [], []
    for other in permutations(range(len(gates))):
        amount_there, weight_there = parts_of(gates, other, index)
        if weight > weight_there:
            least.append((amount_there - amount) / (weight - weight_there))
        if weight < weight_there:
            greatest.append((amount - amount_there) / (weight_there - weight))
    return (pair(max(least)) if least else None, pair(min(greatest)) if greatest else None)


class Changed:
    """A gate whose amount may lie beyond the limits; it only serves this file's own calculation."""

    def __init__(self, factor, amount):
        self.factor = factor
        self.amount = pair(amount)


def is_best_with(gates, order, index, amount):
    changed = list(gates)
    changed[index] = Changed(gates[index].factor, amount)
    known = amounts(changed)
    return known[tuple(order)] == max(known.values())


def lists():
    yield from few_gates(1)
    yield from few_gates(2)
    yield from few_gates(3)[::11]
    draw = random.Random(111)
    for count in (3, 4, 5):
        for _ in range(4):
            for kind in (drawn_gates, parallel_gates, mixed_gates, closing_gates, great_gates):
                yield kind(draw, count)
    yield from (DOC_GATES, CLOSED, SPLIT, [*CLOSED, NOTHING], [GATE] * 4, [NOTHING] * 4)


class SlackTest(unittest.TestCase):
    def test_document(self):
        self.assertEqual(slack(DOC_GATES, [0, 1, 2], 1), ((0, 1), None))

    def test_one_gate_has_no_bounds(self):
        for gate in (GATE, NOTHING, Gate((2, 1), (-1, 1)), Gate((1, 1), (10 ** 6, 1))):
            self.assertEqual(slack([gate], [0], 0), (None, None))

    def test_against_all_orders(self):
        for gates in lists():
            order = best(gates)
            for index in range(len(gates)):
                self.assertEqual(slack(gates, order, index), wanted_slack(gates, order, index))

    def test_every_best_order(self):
        for gates in (CLOSED, SPLIT, [*DOC_GATES, NOTHING], [GATE, GATE, NOTHING], mixed_gates(random.Random(5), 4)):
            known = amounts(gates)
            for order in known:
                if known[order] == max(known.values()):
                    for index in range(len(gates)):
                        self.assertEqual(slack(gates, order, index), wanted_slack(gates, order, index))

    def test_longer_lists_against_all_orders(self):
        draw = random.Random(112)
        for kind in (drawn_gates, mixed_gates, great_gates):
            gates = kind(draw, 7)
            order = best(gates)
            self.assertEqual(slack(gates, order, 3), wanted_slack(gates, order, 3))
        gates = drawn_gates(draw, 8)
        self.assertEqual(slack(gates, best(gates), 7), wanted_slack(gates, best(gates), 7))

    def check_bounds(self, gates, order, index):
        least, greatest = slack(gates, order, index)
        amount = Fraction(*gates[index].amount)
        for bound, outward in ((least, -1), (greatest, 1)):
            if bound is None:
                self.assertTrue(is_best_with(gates, order, index, amount + outward * FAR))
            else:
                self.assertGreaterEqual((Fraction(*bound) - amount) * outward, 0)
                self.assertTrue(is_best_with(gates, order, index, Fraction(*bound)))
                self.assertFalse(is_best_with(gates, order, index, Fraction(*bound) + outward * LITTLE))

    def test_the_order_is_best_up_to_the_bounds_and_not_beyond(self):
        for gates in list(lists())[::2]:
            for index in range(len(gates)):
                self.check_bounds(gates, best(gates), index)

    def test_bounds_of_any_size(self):
        limit = 10 ** 6
        gates = [Gate((limit - 1, limit), (limit, 1)), Gate((1, limit), (limit, 1))]
        self.assertEqual(slack(gates, [1, 0], 1), (None, (limit * (limit - 1), 1)))
        self.assertEqual(slack(gates, [1, 0], 0), ((limit, limit - 1), None))
        draw = random.Random(113)
        seen = 0
        for gates in (great_gates(draw, 4) for _ in range(10)):
            for index in range(4):
                found = slack(gates, best(gates), index)
                self.assertEqual(found, wanted_slack(gates, best(gates), index))
                seen = max([seen] + [abs(number) for bound in found if bound for number in bound])
        self.assertGreater(seen, 10 ** 18)

    def test_both_bounds_may_be_the_amount_itself(self):
        gates = [Gate((1, 2), (1, 1)), Gate((1, 2), (1, 1)), Gate((2, 1), (-2, 1))]
        for order in permutations(range(3)):
            for index in range(3):
                self.assertEqual(slack(gates, order, index), wanted_slack(gates, order, index))
        self.assertEqual(slack(gates, (0, 2, 1), 2), ((-2, 1), (-2, 1)))

    def test_kinds(self):
        for gates in (DOC_GATES, [*CLOSED], great_gates(random.Random(114), 5)):
            for index in range(len(gates)):
                found = slack(gates, best(gates), index)
                self.assertIsInstance(found, tuple)
                self.assertTrue(all(bound is None or isinstance(bound, tuple) for bound in found))

    def test_lists_and_tuples_by_position_and_by_keyword(self):
        for gates in (DOC_GATES, list(DOC_GATES)):
            for order in ([0, 1, 2], (0, 1, 2)):
                self.assertEqual(slack(gates, order, 1), ((0, 1), None))
                self.assertEqual(slack(index=1, gates=gates, order=order), ((0, 1), None))

    def test_arguments_are_not_changed(self):
        gates, order = list(DOC_GATES), [0, 1, 2]
        slack(gates, order, 2)
        self.assertEqual((gates, order), (list(DOC_GATES), [0, 1, 2]))


class ErrorsTest(unittest.TestCase):
    def test_numbers_of_gates(self):
        for count in (0, 9, 11):
            for order in (list(range(count)), [], [0, 0]):
                for index in (0, -1, 8, 99):
                    self.assertEqual(raised(slack, [GATE] * count, order, index), bad_count("gates", count))
        self.assertEqual(raised(slack, [GATE] * 8, range(8), 7), None)

    def test_no_orders(self):
        for order in ([], [0, 1], [2, 1, 1], [2, 1, 3], [-1, 0, 1], [2, 1, 0, 0]):
            for index in (0, 2, -1, 3):
                self.assertEqual(raised(slack, DOC_GATES, order, index), NO_ORDER)

    def test_no_gates(self):
        for order in ([0, 1, 2], [2, 1, 0]):
            for index in (-1, -3, 3, 4, 10 ** 30, -10 ** 30):
                self.assertEqual(raised(slack, DOC_GATES, order, index), no_gate(index))
        self.assertEqual(raised(slack, [GATE], [0], 1), no_gate(1))
        self.assertEqual(raised(slack, [GATE] * 8, range(8), 8), no_gate(8))

    def test_orders_that_are_not_best(self):
        for index in range(3):
            self.assertEqual(raised(slack, DOC_GATES, [2, 1, 0], index), NOT_BEST)
        for gates in (SPLIT, CLOSED, drawn_gates(random.Random(115), 4), mixed_gates(random.Random(116), 4)):
            known = amounts(gates)
            for order in known:
                wanted = None if known[order] == max(known.values()) else NOT_BEST
                self.assertEqual(raised(slack, gates, order, 0), wanted)


if __name__ == "__main__":
    unittest.main()
