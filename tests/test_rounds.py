"""[9], [10]: best and worst orders, the ends, the climb, and the number of best orders."""

import random
import unittest
from fractions import Fraction
from itertools import permutations
from math import factorial

from bestround.gates import Gate
from bestround.paths import gain
from bestround.rounds import best, climb, count_best, ends, worst
from helpers import (CLOSED, DOC_GATES, NO_ORDER, NOTHING, SPLIT, amounts, bad_count, closing_gates, drawn_gates,
                     few_gates, great_gates, greatest_amount, least_amount, mixed_gates, pair, parallel_gates, raised,
                     result, tally)

GATE = Gate((1, 2), (3, 1))
LIMIT = 10 ** 6
# Arrows of one direction, and of two opposite ones.
ONE_WAY = [Gate((1, 2), (1, 1)), Gate((1, 4), (3, 2)), Gate((3, 4), (1, 2)), Gate((1, 8), (7, 4))]
TWO_WAYS = ONE_WAY + [Gate((2, 1), (-2, 1)), Gate((3, 1), (-4, 1))]
UPWARD = [Gate((1, 1), (amount, 3)) for amount in (1, -2, 5, 0)]


def small_lists():
    for count in (1, 2, 3):
        yield from few_gates(count)
    yield from few_gates(4)[::13]
    draw = random.Random(91)
    for count in (4, 5):
        for _ in range(12):
            for kind in (drawn_gates, parallel_gates, mixed_gates, closing_gates, great_gates):
                yield kind(draw, count)
    yield from (list(CLOSED), list(SPLIT), ONE_WAY, TWO_WAYS[2:], UPWARD, [GATE] * 5, [NOTHING] * 5)


def long_lists():
    draw = random.Random(92)
    for count in (6, 7, 8):
        for _ in range(5):
            for kind in (drawn_gates, parallel_gates, mixed_gates, great_gates):
                yield kind(draw, count)
    yield from (closing_gates(draw, 6), TWO_WAYS + [NOTHING] * 2, [GATE] * 8, list(CLOSED) * 2, list(SPLIT) * 2)
    yield from (list(CLOSED) + [NOTHING, GATE, GATE], [NOTHING] * 8, UPWARD * 2)
    yield [Gate((LIMIT - index, 1), (LIMIT, 1 + index)) for index in range(8)]
    yield [Gate((1, LIMIT - index), (-LIMIT, LIMIT - index)) for index in range(8)]


class BestAndWorstTest(unittest.TestCase):
    def check_order(self, gates, order, amount):
        self.assertIsInstance(order, list)
        self.assertEqual(sorted(order), list(range(len(gates))))
        self.assertEqual(result(gates, order), amount)

    def check_ends(self, gates, least, greatest):
        factor = result(gates, range(len(gates)), Fraction(1)) - result(gates, range(len(gates)))
        for x in (Fraction(0), Fraction(7, 3), Fraction(-LIMIT)):
            wanted = (pair(factor * x + least), pair(factor * x + greatest))
            found = ends(gates, pair(x))
            self.assertEqual(found, wanted)
            self.assertEqual([value.__class__ for value in (found, *found)], [tuple] * 3)

    def test_document(self):
        self.assertEqual((best(DOC_GATES), worst(DOC_GATES)), ([0, 1, 2], [2, 1, 0]))
        self.assertEqual(ends(DOC_GATES, (0, 1)), ((3, 1), (7, 1)))

    def test_against_all_orders_of_small_lists(self):
        for gates in small_lists():
            known = amounts(gates).values()
            self.check_order(gates, best(gates), max(known))
            self.check_order(gates, worst(gates), min(known))
            self.assertIsNone(gain(gates, best(gates)))

    def test_ends_against_all_orders_of_small_lists(self):
        for gates in list(small_lists())[::5]:
            known = amounts(gates).values()
            self.check_ends(gates, min(known), max(known))

    def test_against_rounds_by_direction(self):
        for gates in long_lists():
            self.check_order(gates, best(gates), greatest_amount(gates))
            self.check_order(gates, worst(gates), least_amount(gates))
            self.check_ends(gates, least_amount(gates), greatest_amount(gates))
            self.assertIsNone(gain(gates, best(gates)))

    def test_against_all_orders_of_long_lists(self):
        draw = random.Random(93)
        for kind in (drawn_gates, parallel_gates, mixed_gates):
            gates = kind(draw, 7)
            known = tally(gates)
            self.check_order(gates, best(gates), max(known))
            self.check_order(gates, worst(gates), min(known))

    def test_one_gate(self):
        self.assertEqual((best([GATE]), worst([GATE])), ([0], [0]))
        self.assertEqual(ends([GATE], (4, 1)), ((5, 1), (5, 1)))

    def test_ends_take_any_fraction(self):
        self.assertEqual(ends(DOC_GATES, [4, 2]), ((5, 1), (9, 1)))
        self.assertEqual(ends(DOC_GATES, (10 ** 40, 1)), ((10 ** 40 + 3, 1), (10 ** 40 + 7, 1)))
        self.assertEqual(ends(DOC_GATES, [-6, 4]), ((3, 2), (11, 2)))


class ClimbTest(unittest.TestCase):
    def check(self, gates, order):
        """Follow the exchanges of gain, without the program's own way to make them."""
        steps = climb(gates, order)
        self.assertEqual(steps[0], list(order))
        for step, following in zip(steps, steps[1:]):
            found = gain(gates, step)
            begin, middle, end = found.begin, found.middle, found.end
            self.assertEqual(following, step[:begin] + step[middle:end] + step[begin:middle] + step[end:])
            self.assertEqual(result(gates, following) - result(gates, step), Fraction(*found.worth))
        self.assertIsNone(gain(gates, steps[-1]))
        self.assertEqual([row.__class__ for row in (steps, *steps)], [list] * (len(steps) + 1))
        return steps

    def test_document(self):
        self.assertEqual(climb(DOC_GATES, [2, 1, 0]), [[2, 1, 0], [1, 2, 0], [0, 1, 2]])

    def test_all_orders_of_small_lists(self):
        for gates in list(small_lists())[::7]:
            if len(gates) < 5:
                greatest = max(amounts(gates).values())
                for order in permutations(range(len(gates))):
                    steps = self.check(gates, order)
                    self.assertEqual(result(gates, steps[-1]), greatest)

    def test_long_lists(self):
        draw = random.Random(94)
        for gates in list(long_lists())[::4]:
            steps = self.check(gates, draw.sample(range(len(gates)), len(gates)))
            self.assertEqual(result(gates, steps[-1]), greatest_amount(gates))
            self.check(gates, worst(gates))

    def test_a_best_order_stays_alone(self):
        for gates in list(small_lists())[::17]:
            known = amounts(gates)
            for order in known:
                steps = climb(gates, order)
                self.assertEqual(len(steps) == 1, known[order] == max(known.values()))
        self.assertEqual(climb([GATE], (0,)), [[0]])

    def test_the_result_is_new_and_the_order_is_kept(self):
        for order in ([2, 1, 0], [0, 1, 2]):
            kept = list(order)
            steps = climb(list(DOC_GATES), order)
            for step in steps:
                step.append(7)
            self.assertEqual(order, kept)
            self.assertEqual(climb(DOC_GATES, kept), [step[:-1] for step in steps])


class CountBestTest(unittest.TestCase):
    def check(self, gates, wanted):
        self.assertEqual(count_best(gates), wanted)
        known = tally(gates)
        self.assertEqual(known[max(known)], wanted)

    def test_document(self):
        self.check(DOC_GATES, 1)
        self.check([*DOC_GATES, NOTHING], 4)
        self.check(CLOSED, 4)

    def test_against_all_orders_of_small_lists(self):
        for gates in small_lists():
            known = list(amounts(gates).values())
            self.assertEqual(count_best(gates), known.count(max(known)))

    def test_against_all_orders_of_long_lists(self):
        draw = random.Random(95)
        for count in (6, 7):
            for kind in (drawn_gates, parallel_gates, mixed_gates, mixed_gates):
                gates = kind(draw, count)
                known = tally(gates)
                self.assertEqual(count_best(gates), known[max(known)])
        for kind in (drawn_gates, parallel_gates, mixed_gates, great_gates):
            gates = kind(draw, 8)
            known = tally(gates)
            self.assertEqual(count_best(gates), known[max(known)])

    def test_parallel_arrows(self):
        for count in range(1, 9):
            self.assertEqual(count_best((ONE_WAY * 2)[:count]), factorial(count))
            self.assertEqual(count_best((TWO_WAYS * 2)[:count]), factorial(count))
            self.assertEqual(count_best((UPWARD * 2)[:count]), factorial(count))
            self.assertEqual(count_best([GATE] * count), factorial(count))
            self.assertEqual(count_best([NOTHING] * count), factorial(count))

    def test_gates_that_change_nothing(self):
        # Each one has one more place than there are gates before it.
        self.assertEqual(count_best([*DOC_GATES] + [NOTHING] * 4), 4 * 5 * 6 * 7)
        self.assertEqual(count_best([NOTHING] * 5 + [*DOC_GATES]), 4 * 5 * 6 * 7 * 8)

    def test_equal_gates(self):
        self.check([DOC_GATES[0]] * 3 + [DOC_GATES[1]] * 2 + [DOC_GATES[2]] * 2, 6 * 2 * 2)
        self.check([DOC_GATES[1], DOC_GATES[2], DOC_GATES[1]], 2)

    def test_rotations(self):
        self.check([*CLOSED, NOTHING], 4 * 5)
        # The gate that adds 6 in two parts: rotations may begin between them.
        parts = [CLOSED[0], CLOSED[1], Gate((1, 1), (2, 1)), Gate((1, 1), (4, 1)), CLOSED[3]]
        self.check(parts, 5 * 2)
        self.check([*parts, NOTHING, NOTHING], 5 * 2 * 6 * 7)
        self.check([*parts[:-1], Gate((4, 3), (0, 1)), Gate((3, 2), (0, 1))], 6 * 2 * 2)

    def test_split_between_beginning_and_end(self):
        self.check(SPLIT, 6)
        self.check([*SPLIT, NOTHING], 6 * 5)
        self.assertEqual({tuple(order) for order in permutations(range(4)) if gain(SPLIT, order) is None},
                         {(0, 1, 3, 2), (0, 3, 2, 1), (1, 0, 3, 2), (1, 3, 2, 0), (3, 2, 0, 1), (3, 2, 1, 0)})

    def test_closing_lists(self):
        draw = random.Random(96)
        for count in (2, 3, 4, 5, 6):
            for _ in range(4):
                gates = closing_gates(draw, count)
                self.assertEqual(result(gates, best(gates), Fraction(5)), 5)
                known = tally(gates)
                self.check(gates, known[max(known)])

    def test_it_is_the_number_of_orders_without_a_gain(self):
        draw = random.Random(97)
        for kind in (mixed_gates, closing_gates, parallel_gates):
            gates = kind(draw, 5)
            known = [gain(gates, order) for order in permutations(range(5))]
            self.assertEqual(count_best(gates), known.count(None))


class WrongArgumentsTest(unittest.TestCase):
    def test_numbers_of_gates(self):
        for count in (0, 9, 12):
            for gates in ([GATE] * count, (GATE,) * count):
                wanted = bad_count("gates", count)
                for call in (best, worst, count_best):
                    self.assertEqual(raised(call, gates), wanted)
                self.assertEqual(raised(ends, gates, (1, 2)), wanted)
                for order in (list(range(count)), [], [0, 0], [count]):
                    self.assertEqual(raised(climb, gates, order), wanted)

    def test_no_orders(self):
        for order in ([], [0, 1], [0, 1, 1], [0, 1, 3], [0, 1, -1], [0, 1, 2, 2], (1, 2, 3)):
            self.assertEqual(raised(climb, DOC_GATES, order), NO_ORDER)
        self.assertEqual(raised(climb, [GATE] * 8, [0, 1, 2, 3, 4, 5, 6, 6]), NO_ORDER)


class ConventionsTest(unittest.TestCase):
    def test_lists_and_tuples_by_position_and_by_keyword(self):
        for gates in (DOC_GATES, list(DOC_GATES)):
            self.assertEqual(best(gates=gates), [0, 1, 2])
            self.assertEqual(worst(gates=gates), [2, 1, 0])
            self.assertEqual(ends(x=(0, 1), gates=gates), ((3, 1), (7, 1)))
            self.assertEqual(climb(order=(0, 1, 2), gates=gates), [[0, 1, 2]])
            self.assertEqual(count_best(gates=gates), 1)

    def test_same_choice_every_time_and_new_lists(self):
        for gates in ([GATE] * 4, list(CLOSED), list(SPLIT)):
            for call in (best, worst):
                first = call(gates)
                first.append(9)
                self.assertEqual(call(tuple(gates)), first[:-1])

    def test_arguments_are_not_changed(self):
        gates, x = list(DOC_GATES), [4, 2]
        for call in (best, worst, count_best):
            call(gates)
        ends(gates, x)
        climb(gates, [1, 2, 0])
        self.assertEqual((gates, x), (list(DOC_GATES), [4, 2]))


if __name__ == "__main__":
    unittest.main()
