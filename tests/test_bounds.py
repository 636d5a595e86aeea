"""[14], [15]: gates between bounds, spreads, comparisons, and orders that are surely best."""

import random
import unittest
from fractions import Fraction
from itertools import permutations, product

from bestround.bounds import Doubt, Loose, Spread, compare, spread, surely_best
from bestround.gates import Gate
from bestround.paths import Exchange, gain
from bestround.rounds import best
from helpers import (DOC_GATES, NO_ORDER, NOTHING, amounts, bad_count, drawn_gates, great_gates, mixed_gates, pair,
                     raised, result)

LOW = Gate((1, 2), (-3, 1))
HIGH = Gate((4, 1), (5, 2))
FIXED = Loose(LOW, LOW)
WIDE = Loose(LOW, HIGH)
DOC_SOME = [Loose(Gate((1, 2), (3, 1)), Gate((1, 2), (3, 1))), Loose(Gate((1, 1), (1, 1)), Gate((1, 1), (2, 1)))]


def bounds_of(loose):
    factors = sorted([Fraction(*loose.low.factor), Fraction(*loose.high.factor)])
    worths = sorted([Fraction(*loose.low.amount), Fraction(*loose.high.amount)])
    return factors, worths


def all_corners(some):
    """Every corner as a tuple of gates; equal bounds give equal corners."""
    rows = [[Gate(pair(factor), pair(amount)) for factor in factors for amount in worths]
            for factors, worths in map(bounds_of, some)]
    return list(product(*rows))


def inner_gates(draw, some):
    """Gates drawn from between the bounds, as far as their numbers allow; otherwise from a corner."""
    gates = []
    for loose in some:
        factors, worths = bounds_of(loose)
        factor = factors[0] + (factors[1] - factors[0]) * Fraction(draw.randint(0, 4), 4)
        amount = worths[0] + (worths[1] - worths[0]) * Fraction(draw.randint(0, 4), 4)
        gates.append(Gate(pair(factor), pair(amount)))
    return gates


def drawn_some(draw, count, kind):
    return [Loose(*kind(draw, 2)) for _ in range(count)]


def narrow_some(draw, count):
    """Loose gates with bounds that lie close together or are equal, so that some order is often surely best."""
    some = []
    for gate in drawn_gates(draw, count):
        factor = (gate.factor[0] * 100 + draw.randint(0, 9), gate.factor[1] * 100)
        amount = (gate.amount[0] * 100 + draw.choice([0, 0, 3, -5]), gate.amount[1] * 100)
        some.append(Loose(gate, Gate(draw.choice([factor, gate.factor]), amount)))
    return some


def lists():
    draw = random.Random(141)
    for count in (1, 2, 3, 4):
        for _ in range(4):
            for kind in (drawn_gates, mixed_gates, great_gates):
                yield drawn_some(draw, count, kind)
        for _ in range(6):
            yield narrow_some(draw, count)
    yield from (DOC_SOME, [FIXED], [FIXED] * 4, [WIDE], [WIDE] * 3, [WIDE, FIXED, Loose(NOTHING, NOTHING), FIXED])


class LooseTest(unittest.TestCase):
    def test_document(self):
        loose = Loose(Gate((1, 2), (3, 1)), Gate((1, 1), (2, 1)))
        self.assertEqual((loose.low.factor, loose.low.amount, loose.high.factor, loose.high.amount),
                         ((1, 2), (2, 1), (1, 1), (3, 1)))

    def test_both_orders_and_crossed_bounds(self):
        for one, other in (((1, 2), (-3, 1)), ((4, 1), (5, 2))), (((1, 2), (5, 2)), ((4, 1), (-3, 1))):
            for first, second in ((one, other), (other, one)):
                loose = Loose(Gate(*first), Gate(*second))
                self.assertEqual((loose.low, loose.high), (LOW, HIGH))
                self.assertIsInstance(loose.low, Gate)
                self.assertIsInstance(loose.high, Gate)
                self.assertEqual(Loose(high=Gate(*first), low=Gate(*second)), loose)

    def test_fractions_that_lie_close_together(self):
        limit = 10 ** 6
        smaller, greater = (limit - 2, limit - 1), (limit - 1, limit)
        loose = Loose(Gate(greater, (-limit + 2, limit - 1)), Gate(smaller, (-limit + 1, limit)))
        self.assertEqual((loose.low.factor, loose.high.factor), (smaller, greater))
        self.assertEqual((loose.low.amount, loose.high.amount), ((-limit + 1, limit), (-limit + 2, limit - 1)))

    def test_equal_bounds(self):
        self.assertEqual((FIXED.low, FIXED.high), (LOW, LOW))
        loose = Loose(Gate((1, 2), (5, 2)), Gate((2, 4), (-3, 1)))
        self.assertEqual((loose.low, loose.high), (LOW, Gate((1, 2), (5, 2))))

    def test_the_gates_are_not_changed(self):
        one, other = Gate((1, 2), (5, 2)), Gate((4, 1), (-3, 1))
        Loose(other, one)
        self.assertEqual((one, other), (Gate((1, 2), (5, 2)), Gate((4, 1), (-3, 1))))

    def test_equality(self):
        self.assertTrue(WIDE == Loose(Gate((4, 1), (-3, 1)), Gate((1, 2), (5, 2))))
        self.assertFalse(WIDE == FIXED)
        self.assertTrue(WIDE != Loose(LOW, Gate((4, 1), (3, 1))))
        for other in ((LOW, HIGH), LOW, None):
            self.assertFalse(WIDE == other)
            self.assertFalse(other == WIDE)


class HandmadeTest(unittest.TestCase):
    def test_spread(self):
        low, high = [LOW], [HIGH, LOW, LOW]
        made = Spread(high=high, low=low, greatest=[-6, 4], least=(10 ** 30, 10))
        low.append(LOW)
        high.clear()
        self.assertEqual((made.least, made.greatest), ((10 ** 29, 1), (-3, 2)))
        self.assertEqual((made.low, made.high), ((LOW,), (HIGH, LOW, LOW)))
        for field in (made.least, made.greatest, made.low, made.high):
            self.assertIsInstance(field, tuple)

    def test_equality_of_spreads(self):
        fields = [(1, 2), (3, 1), (LOW,), (HIGH,)]
        made = Spread(*fields)
        self.assertTrue(made == Spread([2, 4], [3, 1], [LOW], [HIGH]))
        for at, other in enumerate([(1, 3), (3, 2), (LOW, LOW), ()]):
            self.assertFalse(made == Spread(*fields[:at], other, *fields[at + 1:]))
        for other in (tuple(fields), None, Doubt((LOW,), None)):
            self.assertFalse(made == other)

    def test_doubt(self):
        exchange = Exchange(5, 3, 1, (-2, 4))
        corner = [LOW, HIGH]
        made = Doubt(exchange=exchange, corner=corner)
        corner.pop()
        self.assertEqual((made.corner, made.exchange), ((LOW, HIGH), exchange))
        self.assertIsInstance(made.corner, tuple)
        self.assertEqual(Doubt([], exchange).corner, ())

    def test_equality_of_doubts(self):
        exchange = Exchange(0, 1, 2, (1, 2))
        made = Doubt((LOW, HIGH), exchange)
        self.assertTrue(made == Doubt([LOW, HIGH], Exchange(0, 1, 2, (2, 4))))
        self.assertFalse(made == Doubt((HIGH, LOW), exchange))
        self.assertTrue(made != Doubt((LOW, HIGH), Exchange(0, 1, 2, (1, 3))))
        for other in (((LOW, HIGH), exchange), exchange, None):
            self.assertFalse(made == other)


class SpreadTest(unittest.TestCase):
    def check(self, some, found, value):
        """The value is a function of a corner; all corners are tried."""
        corners = all_corners(some)
        values = [value(corner) for corner in corners]
        self.assertIsInstance(found, Spread)
        self.assertEqual((found.least, found.greatest), (pair(min(values)), pair(max(values))))
        self.assertIn(found.low, corners)
        self.assertIn(found.high, corners)
        self.assertEqual((value(found.low), value(found.high)), (min(values), max(values)))
        for field in (found.least, found.greatest, found.low, found.high):
            self.assertIsInstance(field, tuple)

    def test_spread_against_all_corners(self):
        draw = random.Random(142)
        for some in lists():
            order = draw.sample(range(len(some)), len(some))
            for x in (Fraction(0), Fraction(-7, 3)):
                self.check(some, spread(some, order, pair(x)), lambda corner: result(corner, order, x))

    def test_spread_of_one_loose_gate(self):
        found = spread([WIDE], [0], (-2, 1))
        self.assertEqual(found, Spread((-11, 1), (3, 2), (Gate((4, 1), (-3, 1)),), (Gate((1, 2), (5, 2)),)))
        found = spread([WIDE], (0,), [4, 2])
        self.assertEqual(found, Spread((-2, 1), (21, 2), (LOW,), (HIGH,)))
        found = spread([WIDE], (0,), (0, 1))
        self.assertEqual((found.least, found.greatest), ((-3, 1), (5, 2)))
        self.check([WIDE], found, lambda corner: result(corner, [0]))

    def test_spread_of_any_x(self):
        for x in (Fraction(10 ** 40), Fraction(-1, 10 ** 40), Fraction(10 ** 40, 3)):
            self.check([WIDE] * 3, spread([WIDE] * 3, [2, 0, 1], pair(x)), lambda corner: result(corner, [2, 0, 1], x))

    def test_inner_gates_stay_between(self):
        draw = random.Random(143)
        for count in (1, 2, 3, 4):
            some = drawn_some(draw, count, drawn_gates)
            order = list(range(count))
            found, compared = spread(some, order, (5, 3)), compare(some, order, order[::-1])
            for _ in range(40):
                gates = inner_gates(draw, some)
                value = result(gates, order, Fraction(5, 3))
                self.assertTrue(Fraction(*found.least) <= value <= Fraction(*found.greatest))
                value = result(gates, order) - result(gates, order[::-1])
                self.assertTrue(Fraction(*compared.least) <= value <= Fraction(*compared.greatest))

    def test_document(self):
        found = compare(DOC_SOME, [0, 1], [1, 0])
        self.assertEqual((found.least, found.greatest), ((1, 2), (1, 1)))

    def test_compare_against_all_corners(self):
        draw = random.Random(144)
        for some in lists():
            order, other = (draw.sample(range(len(some)), len(some)) for _ in range(2))
            self.check(some, compare(some, order, other),
                       lambda corner: result(corner, order) - result(corner, other))

    def test_compare_with_itself(self):
        for some in ([WIDE], [WIDE, FIXED], [WIDE] * 4):
            order = list(range(len(some)))
            found = compare(some, order, tuple(order))
            self.assertEqual((found.least, found.greatest), ((0, 1), (0, 1)))
            self.check(some, found, lambda corner: Fraction(0))

    def test_equal_bounds_have_one_corner(self):
        corner = tuple([LOW] * 4)
        found = spread([FIXED] * 4, [3, 1, 0, 2], (1, 1))
        self.assertEqual(found, Spread(found.least, found.least, corner, corner))
        self.assertEqual(found.least, pair(result(corner, [3, 1, 0, 2], Fraction(1))))


class SurelyBestTest(unittest.TestCase):
    def check(self, some, order):
        corners = all_corners(some)
        doubtful = [corner for corner in corners if gain(corner, order) is not None]
        found = surely_best(some, order)
        if found is None:
            self.assertEqual(doubtful, [])
        else:
            self.assertIsInstance(found, Doubt)
            self.assertIsInstance(found.corner, tuple)
            self.assertIn(found.corner, doubtful)
            self.assertEqual(found.exchange, gain(found.corner, order))
        return found

    def test_document(self):
        doubt = surely_best(DOC_SOME, [1, 0])
        self.assertIsNone(surely_best(DOC_SOME, [0, 1]))
        self.assertEqual((doubt.exchange.begin, doubt.exchange.middle, doubt.exchange.end), (0, 1, 2))

    def test_against_all_corners(self):
        draw = random.Random(145)
        sure = 0
        for some in lists():
            low = [loose.low for loose in some]
            for order in (best(low), draw.sample(range(len(some)), len(some))):
                sure += self.check(some, order) is None
        self.assertGreater(sure, 20)

    def test_against_all_orders_at_all_corners(self):
        draw = random.Random(146)
        for count in (2, 3):
            for _ in range(5):
                some = narrow_some(draw, count)
                for order in permutations(range(count)):
                    known = [amounts(corner) for corner in all_corners(some)]
                    surely = all(row[order] == max(row.values()) for row in known)
                    self.assertEqual(surely_best(some, order) is None, surely)

    def test_one_loose_gate_is_always_best(self):
        for loose in (WIDE, FIXED, Loose(NOTHING, HIGH)):
            self.assertIsNone(surely_best([loose], [0]))

    def test_fixed_gates(self):
        some = [Loose(gate, gate) for gate in DOC_GATES]
        self.assertIsNone(surely_best(some, [0, 1, 2]))
        found = surely_best(some, [2, 1, 0])
        self.assertEqual(found, Doubt(DOC_GATES, gain(DOC_GATES, [2, 1, 0])))

    def test_one_doubtful_corner_among_many(self):
        # With equal factors the gate with the greater amount is better passed last.
        first = Loose(Gate((1, 2), (1, 1)), Gate((1, 2), (2, 1)))
        for least in ((2, 1), (3, 2)):
            some = [first, Loose(Gate((1, 2), least), Gate((1, 2), (5, 1)))]
            found = self.check(some, [0, 1])
            if least == (2, 1):
                self.assertIsNone(found)
            else:
                self.assertEqual(found, Doubt([first.high, some[1].low], Exchange(0, 1, 2, (1, 4))))
            self.assertIsNotNone(self.check(some, [1, 0]))

    def test_doubt_at_each_corner_alone(self):
        # Arrows (x, y) with x * v == y * u, each bound a little or far away from them: one corner alone turns right.
        half, little, far = Fraction(1, 2), Fraction(1, 100), Fraction(1, 5)
        seen = set()
        for x, y, side in product((half, -half), (half, -half), (1, -1)):
            u, v = side * x, side * y
            pushed = [(x, v), (y, -u), (u, -y), (v, x)]
            doubtful = [base - little * (1 if slope > 0 else -1) for base, slope in pushed]
            safe = [base + far * (1 if slope > 0 else -1) for base, slope in pushed]
            gates = [[Gate(pair(1 - row[at]), pair(row[at + 1])) for row in (doubtful, safe)] for at in (0, 2)]
            some = [Loose(*pairs) for pairs in gates]
            corner = (gates[0][0], gates[1][0])
            self.assertEqual([row for row in all_corners(some) if gain(row, [0, 1]) is not None], [corner])
            self.assertEqual(self.check(some, [0, 1]).corner, corner)
            seen.add(all_corners(some).index(corner))
            nothing = Loose(NOTHING, NOTHING)
            found = self.check([nothing, some[1], nothing, some[0]], [0, 3, 2, 1])
            self.assertEqual(found.corner, (NOTHING, corner[1], NOTHING, corner[0]))
        self.assertEqual(len(seen), 8)
        self.assertLessEqual({0, 15}, seen)

    def test_inner_gates_keep_a_sure_order_best(self):
        draw = random.Random(147)
        for count in (2, 3, 4):
            for _ in range(20):
                some = narrow_some(draw, count)
                order = best([loose.low for loose in some])
                if surely_best(some, order) is None:
                    for _ in range(5):
                        self.assertIsNone(gain(inner_gates(draw, some), order))


class WrongArgumentsTest(unittest.TestCase):
    def calls(self, some, order):
        right = list(range(len(some)))
        return [raised(spread, some, order, (1, 2)), raised(compare, some, order, right),
                raised(compare, some, right, order), raised(surely_best, some, order)]

    def test_numbers_of_loose_gates(self):
        for count in (0, 5, 8, 9):
            for order in (list(range(count)), [], [0, 0], [count]):
                for some in ([WIDE] * count, (WIDE,) * count):
                    self.assertEqual(self.calls(some, order), [bad_count("loose", count)] * 4)
        for count in (1, 4):
            self.assertEqual(self.calls([WIDE] * count, range(count)), [None] * 4)

    def test_no_orders(self):
        for order in ([], [0], [0, 1, 2, 3], [0, 1, 1], [0, 1, 3], [0, 1, -1], (1, 2, 3)):
            self.assertEqual(self.calls([WIDE, FIXED, WIDE], order), [NO_ORDER] * 4)
        for order in ([], [1], [-1], [0, 0]):
            self.assertEqual(self.calls([WIDE], order), [NO_ORDER] * 4)
        self.assertEqual(self.calls([WIDE] * 4, [0, 1, 2, 4]), [NO_ORDER] * 4)


class ConventionsTest(unittest.TestCase):
    def test_lists_and_tuples_by_position_and_by_keyword(self):
        for kind in (list, tuple):
            some, order, other = kind([WIDE, FIXED]), kind([1, 0]), kind([0, 1])
            self.assertEqual(spread(x=[2, 4], order=order, some=some), spread([WIDE, FIXED], [1, 0], (1, 2)))
            self.assertEqual(compare(other=other, some=some, order=order), compare([WIDE, FIXED], [1, 0], [0, 1]))
            self.assertEqual(surely_best(order=order, some=some), surely_best([WIDE, FIXED], [1, 0]))

    def test_arguments_are_not_changed(self):
        some, order, x = [WIDE, FIXED, WIDE], [1, 0, 2], [2, 4]
        spread(some, order, x)
        compare(some, order, [2, 1, 0])
        surely_best(some, order)
        self.assertEqual((some, order, x), ([WIDE, FIXED, WIDE], [1, 0, 2], [2, 4]))


if __name__ == "__main__":
    unittest.main()
