"""[16]: all orders that turn one number into another."""

import random
import unittest
from fractions import Fraction
from itertools import permutations
from math import factorial

from bestround.gates import Gate
from bestround.leads import lead
from helpers import (CLOSED, DOC_GATES, NOTHING, SPLIT, bad_count, closing_gates, drawn_gates, few_gates, great_gates,
                     mixed_gates, pair, parallel_gates, raised, result)

GATE = Gate((1, 2), (3, 1))
LIMIT = 10 ** 6


def lists():
    yield from few_gates(1)
    yield from few_gates(2)
    yield from few_gates(3)[::9]
    draw = random.Random(161)
    for count in (3, 4, 5):
        for _ in range(3):
            for kind in (drawn_gates, parallel_gates, mixed_gates, closing_gates, great_gates):
                yield kind(draw, count)
    yield from (list(CLOSED), list(SPLIT), [*CLOSED, NOTHING], [GATE] * 4, [NOTHING] * 5)
    yield from (drawn_gates(draw, 6), mixed_gates(draw, 6), [*CLOSED, NOTHING, GATE], [GATE, NOTHING] * 3)


class LeadTest(unittest.TestCase):
    def check(self, gates, x, goal, wanted):
        found = lead(gates, pair(x), pair(goal))
        self.assertEqual(found, wanted)
        self.assertIsInstance(found, list)
        for order in found:
            self.assertIsInstance(order, tuple)

    def test_document(self):
        self.assertEqual(lead(DOC_GATES[:2], (0, 1), (4, 1)), [(0, 1)])

    def test_against_all_orders(self):
        seen = set()
        for gates in lists():
            for x in (Fraction(0), Fraction(-7, 3)):
                known = {}
                for order in permutations(range(len(gates))):
                    known.setdefault(result(gates, order, x), []).append(order)
                goals = sorted(known)
                for goal in goals[:4] + goals[-4:] + sorted(goals, key=lambda value: len(known[value]))[-2:]:
                    self.check(gates, x, goal, known[goal])
                    seen.add((len(known[goal]) > 1, len(known) > 1))
                for goal in (goals[0] - 1, goals[-1] + Fraction(1, 10 ** 30)):
                    self.check(gates, x, goal, [])
        self.assertEqual(len(seen), 4)

    def test_all_orders_and_their_sequence(self):
        for count in range(1, 7):
            wanted = list(permutations(range(count)))
            self.assertEqual(len(wanted), factorial(count))
            self.assertEqual(lead([NOTHING] * count, (5, 3), (5, 3)), wanted)
            self.assertEqual(lead([Gate((1, 1), (index, 1)) for index in range(count)], (0, 1),
                                  (count * (count - 1), 2)), wanted)

    def test_one_gate(self):
        self.assertEqual(lead([GATE], (4, 1), (5, 1)), [(0,)])
        self.assertEqual(lead([GATE], (4, 1), (-5, 1)), [])
        self.assertEqual(lead([GATE], (-6, 1), (0, 1)), [(0,)])

    def test_fractions_in_any_form(self):
        for x in ((0, 1), [0, 1], (0, 12), [0, 7]):
            for goal in ((4, 1), [4, 1], (12, 3), [40, 10]):
                self.assertEqual(lead(DOC_GATES[:2], x, goal), [(0, 1)])
        for x in ((1, 3), [4, 12]):
            for goal in ((-11, 6), [-22, 12]):
                self.assertEqual(lead([Gate((1, 2), (-2, 1))], x, goal), [(0,)])

    def test_fractions_of_any_size(self):
        x = Fraction(10 ** 40 + 1, 3)
        gates = great_gates(random.Random(162), 6)
        order = (3, 1, 5, 0, 4, 2)
        self.assertIn(order, lead(gates, pair(x), pair(result(gates, order, x))))
        self.assertEqual(lead([NOTHING] * 2, (10 ** 40, 1), (10 ** 40 + 1, 1)), [])

    def test_lists_and_tuples_by_position_and_by_keyword(self):
        for kind in (list, tuple):
            gates = kind(DOC_GATES)
            self.assertEqual(lead(gates, kind((0, 1)), kind((7, 1))), [(0, 1, 2)])
            self.assertEqual(lead(goal=kind((7, 1)), gates=gates, x=kind((0, 1))), [(0, 1, 2)])

    def test_arguments_are_not_changed_and_the_list_is_new(self):
        gates, x, goal = list(DOC_GATES), [0, 2], [14, 2]
        first = lead(gates, x, goal)
        self.assertEqual((gates, x, goal), (list(DOC_GATES), [0, 2], [14, 2]))
        first.append(7)
        self.assertEqual(lead(gates, x, goal), [(0, 1, 2)])

    def test_numbers_of_gates(self):
        for count in (0, 7, 8, 9, 12):
            for gates in ([GATE] * count, (GATE,) * count):
                self.assertEqual(raised(lead, gates, (0, 1), (1, 1)), bad_count("gates", count))
        for count in (1, 6):
            self.assertIsNone(raised(lead, [GATE] * count, (0, 1), (1, 1)))


if __name__ == "__main__":
    unittest.main()
