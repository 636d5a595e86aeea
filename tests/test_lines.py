"""[2], [4] to [7]: lines, passing a list of gates, and turns."""

import random
import unittest
from fractions import Fraction
from itertools import permutations

from bestround.gates import Gate, Line, carry, line, rest, turn, worth
from helpers import (DOC_GATES, NO_ORDER, amounts, arrow_of, bad_count, drawn_gates, few_gates, pair, raised, result)

HUGE = 10 ** 400
GATE = Gate((1, 2), (3, 1))


class LineTest(unittest.TestCase):
    def test_fields_of_any_size(self):
        whole = Line((HUGE * 6, HUGE * 4), (-HUGE, HUGE + 1))
        self.assertEqual((whole.factor, whole.amount), ((3, 2), (-HUGE, HUGE + 1)))
        whole = Line([HUGE, 1], [1, HUGE])
        self.assertEqual((whole.factor, whole.amount), ((HUGE, 1), (1, HUGE)))

    def test_no_factor_is_refused(self):
        for top in (0, -1, -HUGE):
            self.assertEqual(Line((top, 1), (0, 5)).factor, (top, 1))
        self.assertEqual(Line((0, 7), (0, 5)).factor, (0, 1))

    def test_later_changes_to_a_list_have_no_effect(self):
        factor, amount = [2, 4], [3, 1]
        whole = Line(factor, amount)
        self.assertEqual((factor, amount), ([2, 4], [3, 1]))
        factor[0] = amount[0] = 9
        self.assertEqual((whole.factor, whole.amount), ((1, 2), (3, 1)))
        self.assertIsInstance(whole.factor, tuple)
        self.assertIsInstance(whole.amount, tuple)

    def test_equality(self):
        self.assertTrue(Line((1, 2), (3, 1)) == Line([3, 6], [3, 1]))
        self.assertTrue(Line((1, 2), (3, 1)) != Line((1, 2), (2, 1)))
        self.assertTrue(Line((1, 2), (3, 1)) != Line((1, 3), (3, 1)))

    def test_a_line_is_no_gate(self):
        self.assertFalse(Line((1, 2), (3, 1)) == GATE)
        self.assertFalse(GATE == Line((1, 2), (3, 1)))
        self.assertTrue(GATE != Line((1, 2), (3, 1)))
        self.assertFalse(Line((1, 2), (3, 1)) == ((1, 2), (3, 1)))


class CarryTest(unittest.TestCase):
    def test_gates_and_lines(self):
        for passed in (GATE, Line((1, 2), (3, 1))):
            self.assertEqual(carry(passed, (4, 1)), (5, 1))
            self.assertEqual(carry(passed, (0, 1)), (3, 1))
            self.assertEqual(carry(passed, (-6, 1)), (0, 1))
            self.assertEqual(carry(passed, (-7, 3)), (11, 6))

    def test_fractions_in_any_form(self):
        for x in ((4, 6), [4, 6], (2, 3), [2, 3]):
            found = carry(GATE, x)
            self.assertEqual(found, (10, 3))
            self.assertIsInstance(found, tuple)

    def test_the_argument_is_not_changed(self):
        x = [4, 6]
        carry(GATE, x)
        self.assertEqual(x, [4, 6])

    def test_any_size(self):
        self.assertEqual(carry(GATE, (HUGE, 1)), (HUGE // 2 + 3, 1))
        self.assertEqual(carry(Line((1, HUGE), (-1, HUGE)), (HUGE + 1, 1)), (1, 1))

    def test_against_other_arithmetic(self):
        draw = random.Random(4)
        for gate in drawn_gates(draw, 200):
            x = Fraction(draw.randint(-50, 50), draw.randint(1, 50))
            self.assertEqual(carry(gate, pair(x)), pair(result([gate], [0], x)))


class RestTest(unittest.TestCase):
    def test_factor_of_one(self):
        for kind in (Gate, Line):
            self.assertEqual(rest(kind((3, 3), (0, 4))), "all")
            self.assertIsNone(rest(kind((1, 1), (2, 1))))
            self.assertIsNone(rest(kind((5, 5), (-1, 3))))

    def test_other_factors(self):
        for kind in (Gate, Line):
            self.assertEqual(rest(kind((1, 2), (3, 1))), (6, 1))
            self.assertEqual(rest(kind((2, 1), (-1, 1))), (1, 1))
            self.assertEqual(rest(kind((2, 1), (3, 1))), (-3, 1))
            self.assertEqual(rest(kind((5, 2), (1, 1))), (-2, 3))
            self.assertEqual(rest(kind((1, 2), (-3, 4))), (-3, 2))
            self.assertEqual(rest(kind((7, 3), (0, 1))), (0, 1))

    def test_lines_without_limits(self):
        self.assertEqual(rest(Line((0, 1), (5, 3))), (5, 3))
        self.assertEqual(rest(Line((-1, 1), (5, 1))), (5, 2))
        self.assertEqual(rest(Line((HUGE + 1, 1), (-HUGE, 1))), (1, 1))
        self.assertEqual(rest(Line((1, 1), (0, HUGE))), "all")

    def test_what_rests_stays(self):
        for gate in drawn_gates(random.Random(7), 200):
            if gate.factor != (1, 1):
                self.assertEqual(carry(gate, rest(gate)), rest(gate))


class WholeLineTest(unittest.TestCase):
    def test_document(self):
        self.assertEqual(line(DOC_GATES, [0, 1, 2]), Line((1, 1), (7, 1)))
        self.assertEqual(line(DOC_GATES, [2, 1, 0]), Line((1, 1), (3, 1)))

    def test_lists_and_tuples(self):
        for gates in (DOC_GATES, list(DOC_GATES)):
            for order in ((1, 0, 2), [1, 0, 2]):
                self.assertEqual(line(gates, order), Line((1, 1), (6, 1)))

    def test_arguments_are_not_changed(self):
        gates, order = list(DOC_GATES), [1, 0, 2]
        line(gates, order)
        self.assertEqual((gates, order), (list(DOC_GATES), [1, 0, 2]))

    def test_one_gate(self):
        self.assertEqual(line([GATE], [0]), Line((1, 2), (3, 1)))

    def test_result_is_a_line_with_its_own_fields(self):
        whole = line([GATE], [0])
        self.assertIsInstance(whole, Line)
        self.assertEqual((whole.factor, whole.amount), ((1, 2), (3, 1)))

    def test_eight_gates_and_great_numbers(self):
        gates = [Gate((10 ** 6 - index, 10 ** 6 - 10 - index), (1, 10 ** 6 - index)) for index in range(8)]
        order = [5, 0, 7, 2, 6, 1, 4, 3]
        whole = line(gates, order)
        self.assertEqual(whole.amount, pair(result(gates, order)))
        self.assertEqual(Fraction(*whole.factor), result(gates, order, Fraction(1)) - result(gates, order))

    def test_carry_of_the_line_is_the_passage(self):
        draw = random.Random(5)
        for count in (1, 2, 3, 5, 8):
            gates = drawn_gates(draw, count)
            order = draw.sample(range(count), count)
            for x in (Fraction(0), Fraction(1), Fraction(-7, 3)):
                self.assertEqual(carry(line(gates, order), pair(x)), pair(result(gates, order, x)))

    def test_the_factor_is_the_same_for_every_order(self):
        for order in permutations(range(3)):
            self.assertEqual(line(DOC_GATES, order).factor, (1, 1))


class WrongArgumentsTest(unittest.TestCase):
    def check(self, gates, order, wanted):
        for sequence in (tuple(order), list(order)):
            self.assertEqual(raised(line, gates, sequence), wanted)
            self.assertEqual(raised(worth, gates, sequence, list(range(len(gates)))), wanted)
            self.assertEqual(raised(worth, gates, list(range(len(gates))), sequence), wanted)

    def test_numbers_of_gates(self):
        self.check([], [], bad_count("gates", 0))
        self.check((), (), bad_count("gates", 0))
        self.check([GATE] * 9, range(9), bad_count("gates", 9))
        self.check((GATE,) * 12, range(12), bad_count("gates", 12))
        for count in (1, 8):
            self.check([GATE] * count, range(count), None)

    def test_gates_come_before_orders(self):
        self.check([], [0], bad_count("gates", 0))
        self.check([GATE] * 9, [0, 0], bad_count("gates", 9))

    def test_no_orders(self):
        gates = list(DOC_GATES)
        wrong = ([], [0], [0, 1], [0, 1, 2, 3], [0, 1, 2, 0], [0, 1, 1], [2, 2, 2], [0, 1, -1], [-3, -2, -1],
                 [0, 1, 3], [1, 2, 3], [0, 1, 10 ** 30], [0, 1, 2, 2])
        for order in wrong:
            self.check(gates, order, NO_ORDER)

    def test_no_order_of_one_and_of_eight_gates(self):
        self.check([GATE], [1], NO_ORDER)
        self.check([GATE], [-1], NO_ORDER)
        self.check([GATE], [], NO_ORDER)
        self.check([GATE], [0, 0], NO_ORDER)
        self.check([GATE] * 8, [0, 1, 2, 3, 4, 5, 6, 6], NO_ORDER)
        self.check([GATE] * 8, range(1, 9), NO_ORDER)


class WorthTest(unittest.TestCase):
    def test_document(self):
        self.assertEqual(worth(DOC_GATES, [0, 1, 2], [2, 1, 0]), (4, 1))
        self.assertEqual(worth(DOC_GATES, (2, 1, 0), (0, 1, 2)), (-4, 1))
        self.assertEqual(worth(DOC_GATES, [1, 0, 2], (1, 0, 2)), (0, 1))

    def test_against_other_arithmetic(self):
        gates = drawn_gates(random.Random(6), 4)
        known = amounts(gates)
        for order in known:
            for other in known:
                found = worth(gates, order, other)
                self.assertEqual(found, pair(known[order] - known[other]))
                self.assertIsInstance(found, tuple)

    def test_the_difference_is_the_same_for_every_x(self):
        difference = Fraction(*worth(DOC_GATES, [0, 2, 1], [1, 2, 0]))
        for x in (Fraction(0), Fraction(5), Fraction(-9, 4)):
            self.assertEqual(result(DOC_GATES, [0, 2, 1], x) - result(DOC_GATES, [1, 2, 0], x), difference)


class TurnTest(unittest.TestCase):
    def test_document(self):
        self.assertEqual(turn(DOC_GATES[0], DOC_GATES[1]), 1)
        self.assertEqual(turn(DOC_GATES[1], DOC_GATES[0]), -1)

    def test_equal_and_parallel_arrows(self):
        self.assertEqual(turn(GATE, Gate((2, 4), (6, 2))), 0)
        self.assertEqual(turn(Gate((1, 1), (5, 1)), Gate((1, 1), (-2, 3))), 0)
        self.assertEqual(turn(Gate((1, 2), (1, 1)), Gate((3, 4), (1, 2))), 0)
        self.assertEqual(turn(Gate((1, 2), (1, 1)), Gate((2, 1), (-2, 1))), 0)

    def test_gates_that_change_nothing(self):
        for gate in DOC_GATES:
            self.assertEqual(turn(gate, Gate((1, 1), (0, 1))), 0)
            self.assertEqual(turn(Gate((1, 1), (0, 1)), gate), 0)

    def test_all_small_pairs(self):
        for gates in few_gates(2):
            known = amounts(gates)
            change = known[0, 1] - known[1, 0]
            found = turn(*gates)
            self.assertEqual(found, (change > 0) - (change < 0))
            (a, b), (c, d) = arrow_of(gates[0]), arrow_of(gates[1])
            self.assertEqual(found, (a * d > b * c) - (a * d < b * c))
            self.assertEqual(found, -turn(gates[1], gates[0]))


if __name__ == "__main__":
    unittest.main()
