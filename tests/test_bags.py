"""[12], [13]: blocks and bags, and the best and the worst way to pass them."""

import random
import unittest
from fractions import Fraction
from itertools import permutations, product
from math import factorial

from bestround.bags import Bag, Block, Solved, least, leaves, solve, ways
from bestround.gates import Gate, Line
from bestround.rounds import best
from helpers import (CLOSED, DOC_GATES, NOTHING, bad_count, drawn_gates, great_gates, greatest_amount, least_amount,
                     mixed_gates, pair, raised, result)

GATE = Gate((1, 2), (3, 1))
ONE, TWO, THREE = DOC_GATES
KINDS = (Block, Bag)


def size_of(item):
    return 1 if isinstance(item, Gate) else sum(size_of(part) for part in item.parts)


def gates_of(item):
    return [item] if isinstance(item, Gate) else [gate for part in item.parts for gate in gates_of(part)]


def all_ways(item, first=0):
    """Every way to pass the item, each as the numbers of its gates; the same numbers may come several times."""
    if isinstance(item, Gate):
        return [(first,)]
    inner = []
    for part in item.parts:
        inner.append(all_ways(part, first))
        first += size_of(part)
    orders = permutations(inner) if isinstance(item, Bag) else [inner]
    return [sum(chosen, ()) for order in orders for chosen in product(*order)]


def is_way(item, order, first=0):
    """Whether the order keeps the parts of each item together, and those of blocks in their order."""
    if isinstance(item, Gate):
        return list(order) == [first]
    spans, rows = [], []
    for part in item.parts:
        numbers = range(first, first + size_of(part))
        places = [place for place, number in enumerate(order) if number in numbers]
        if places != list(range(places[0], places[0] + len(numbers))):
            return False
        spans.append(places[0])
        rows.append(is_way(part, [order[place] for place in places], first))
        first += len(numbers)
    return all(rows) and len(order) == len(gates_of(item)) and (isinstance(item, Bag) or spans == sorted(spans))


def ends_of(item):
    """The factor, and the least and the greatest amount, by rounds by direction in each bag."""
    if isinstance(item, Gate):
        return Fraction(*item.factor), Fraction(*item.amount), Fraction(*item.amount)
    inner = [ends_of(part) for part in item.parts]
    low = [Line(pair(factor), pair(amount)) for factor, amount, _ in inner]
    high = [Line(pair(factor), pair(amount)) for factor, _, amount in inner]
    factor = Fraction(1)
    for part in inner:
        factor *= part[0]
    if isinstance(item, Bag):
        return factor, least_amount(low), greatest_amount(high)
    return factor, result(low, range(len(low))), result(high, range(len(high)))


def drawn_item(draw, depth, room, most=4):
    """An item of this depth with at most so many gates inside."""
    if depth == 0:
        return draw.choice([drawn_gates, mixed_gates, great_gates])(draw, 1)[0]
    parts = [drawn_item(draw, depth - 1, room, most)]
    room -= size_of(parts[0])
    while room > 0 and len(parts) < most and draw.random() < 0.8:
        parts.append(drawn_item(draw, draw.randint(0, depth - 1), min(room, 5), most))
        room -= size_of(parts[-1])
    return draw.choice(KINDS)(draw.sample(parts, len(parts)))


def deep(depth, inner=GATE):
    for step in range(depth):
        inner = KINDS[step % 2]([inner])
    return inner


class ItemsTest(unittest.TestCase):
    def test_parts(self):
        for kind in KINDS:
            for parts in ([ONE], [ONE, TWO], [GATE] * 8, [Bag([ONE]), Block([TWO, THREE]), ONE]):
                for given in (list(parts), tuple(parts)):
                    item = kind(given)
                    self.assertEqual(item.parts, tuple(parts))
                    self.assertIsInstance(item.parts, tuple)
                    self.assertEqual(kind(parts=given), item)

    def test_later_changes_to_the_list_have_no_effect(self):
        for kind in KINDS:
            parts = [ONE, TWO]
            item = kind(parts)
            parts.append(THREE)
            parts[0] = GATE
            self.assertEqual(item.parts, (ONE, TWO))

    def test_numbers_of_parts(self):
        for kind in KINDS:
            for count in (0, 9, 10, 31):
                for parts in ([GATE] * count, (GATE,) * count):
                    self.assertEqual(raised(kind, parts), bad_count("parts", count))
            for count in (1, 8):
                self.assertIsNone(raised(kind, [GATE] * count))

    def test_numbers_of_leaves(self):
        eight = Bag([GATE] * 8)
        thirty = Block([eight, eight, eight, Bag([GATE] * 6)])
        self.assertEqual(len(leaves(thirty)), 30)
        for kind in KINDS:
            self.assertIsNone(raised(kind, [thirty]))
            self.assertIsNone(raised(kind, [eight] * 3 + [GATE, kind([GATE] * 5)]))
            self.assertEqual(raised(kind, [eight] * 3 + [Bag([GATE] * 7)]), bad_count("leaves", 31))
            self.assertEqual(raised(kind, [thirty, GATE]), bad_count("leaves", 31))
            self.assertEqual(raised(kind, (eight,) * 4), bad_count("leaves", 32))
            self.assertEqual(raised(kind, [thirty] * 8), bad_count("leaves", 240))

    def test_depths(self):
        for kind in KINDS:
            self.assertIsNone(raised(kind, [deep(5)]))
            self.assertEqual(raised(kind, [deep(6)]), bad_count("depth", 7))
            self.assertEqual(raised(kind, [GATE, deep(6), deep(2), GATE]), bad_count("depth", 7))
            self.assertIsNone(raised(kind, [GATE, deep(5), deep(2), GATE]))

    def test_order_of_the_errors(self):
        eight, six_deep = Bag([GATE] * 8), deep(6)
        for kind in KINDS:
            self.assertEqual(raised(kind, [eight] * 9), bad_count("parts", 9))
            self.assertEqual(raised(kind, [eight] * 8 + [six_deep]), bad_count("parts", 9))
            self.assertEqual(raised(kind, [six_deep] * 9), bad_count("parts", 9))
            self.assertEqual(raised(kind, [eight] * 4 + [six_deep]), bad_count("leaves", 33))
            self.assertEqual(raised(kind, [deep(5, eight)] * 4), bad_count("leaves", 32))
            self.assertEqual(raised(kind, [six_deep] + [eight] * 3), bad_count("depth", 7))

    def test_equality(self):
        for kind in KINDS:
            self.assertTrue(kind([ONE, TWO]) == kind((ONE, TWO)))
            self.assertTrue(kind([kind([ONE]), Bag([TWO])]) == kind([kind([ONE]), Bag([TWO])]))
            self.assertFalse(kind([ONE, TWO]) == kind([TWO, ONE]))
            self.assertFalse(kind([ONE]) == kind([ONE, ONE]))
            self.assertTrue(kind([ONE]) != kind([kind([ONE])]))
            for other in ((ONE, TWO), [ONE, TWO], ONE, None, Line((1, 2), (3, 1))):
                self.assertFalse(kind([ONE, TWO]) == other)
                self.assertFalse(other == kind([ONE, TWO]))
            self.assertFalse(ONE == kind([ONE]))
        self.assertFalse(Block([ONE, TWO]) == Bag([ONE, TWO]))
        self.assertFalse(Bag([ONE]) == Block([ONE]))
        self.assertFalse(Bag([Block([ONE])]) == Bag([Bag([ONE])]))


class SolvedTest(unittest.TestCase):
    def test_made_by_hand(self):
        order = [4, 4, -1]
        solved = Solved(order=order, line=Line((-1, 3), (0, 1)))
        order.append(5)
        self.assertEqual((solved.line, solved.order), (Line((-1, 3), (0, 1)), (4, 4, -1)))
        self.assertIsInstance(solved.order, tuple)
        self.assertEqual(Solved(Line((1, 1), (0, 1)), ()).order, ())

    def test_equality(self):
        one = Solved(Line((1, 2), (3, 1)), (0, 1))
        self.assertTrue(one == Solved(Line((2, 4), (6, 2)), [0, 1]))
        self.assertFalse(one == Solved(Line((1, 2), (3, 1)), (1, 0)))
        self.assertFalse(one == Solved(Line((1, 2), (4, 1)), (0, 1)))
        self.assertTrue(one != Solved(Line((1, 3), (3, 1)), (0, 1)))
        for other in (one.line, (one.line, one.order), None, GATE):
            self.assertFalse(one == other)


class SolveTest(unittest.TestCase):
    def check_one(self, item, found, amount):
        gates = gates_of(item)
        self.assertIsInstance(found, Solved)
        self.assertIsInstance(found.line, Line)
        self.assertIsInstance(found.order, tuple)
        self.assertEqual(Fraction(*found.line.amount), amount)
        self.assertEqual(result(gates, found.order), amount)
        self.assertEqual(result(gates, found.order, Fraction(1)) - amount, Fraction(*found.line.factor))
        self.assertEqual(sorted(found.order), list(range(len(gates))))
        self.assertTrue(is_way(item, found.order))

    def check(self, item):
        _, low, high = ends_of(item)
        self.check_one(item, solve(item), high)
        self.check_one(item, least(item), low)
        self.assertEqual(solve(item), solve(item))
        self.assertEqual(least(item), least(item))

    def check_all_ways(self, item):
        gates = gates_of(item)
        every = all_ways(item)
        amounts = [result(gates, order) for order in every]
        self.assertEqual(ways(item), len(every))
        self.assertIn(solve(item).order, every)
        self.assertIn(least(item).order, every)
        self.check_one(item, solve(item), max(amounts))
        self.check_one(item, least(item), min(amounts))
        self.assertEqual(leaves(item), gates)

    def test_document(self):
        bag = Bag([ONE, Block([THREE, TWO])])
        found = solve(bag)
        self.assertEqual((found.line.amount, found.order, ways(bag)), ((6, 1), (0, 1, 2), 2))
        self.assertEqual(least(bag), Solved(Line((1, 1), (3, 1)), (1, 2, 0)))

    def test_this_file_knows_the_ways_by_two_means(self):
        item = Bag([ONE, Block([THREE, Bag([TWO, GATE])]), TWO])
        every = set(all_ways(item))
        for order in permutations(range(5)):
            self.assertEqual(is_way(item, order), order in every)

    def test_a_gate_alone(self):
        for gate in (*DOC_GATES, NOTHING, *great_gates(random.Random(121), 5)):
            wanted = Solved(Line(gate.factor, gate.amount), (0,))
            self.assertEqual(solve(gate), wanted)
            self.assertEqual(least(gate), wanted)
            self.check_all_ways(gate)

    def test_flat_items(self):
        draw = random.Random(122)
        for count in (1, 2, 3, 4):
            for kind in (drawn_gates, mixed_gates, great_gates):
                for held in KINDS:
                    self.check_all_ways(held(kind(draw, count)))
        for gates in (CLOSED, DOC_GATES, [GATE] * 3, [NOTHING, GATE, NOTHING]):
            self.check_all_ways(Bag(gates))
            self.check_all_ways(Block(gates))

    def test_the_first_entry_is_passed_first(self):
        self.assertEqual(solve(Bag([THREE, TWO, ONE])).order, (2, 1, 0))
        self.assertEqual(solve(Bag([TWO, THREE, ONE])).order, (2, 0, 1))
        self.assertEqual(list(solve(Bag(DOC_GATES)).order), best(DOC_GATES))
        self.assertEqual(solve(Block([THREE, TWO, ONE])), Solved(Line((1, 1), (3, 1)), (0, 1, 2)))

    def test_small_items_against_all_ways(self):
        draw = random.Random(123)
        for depth in (1, 2, 3):
            for _ in range(60):
                item = drawn_item(draw, depth, 7, 3)
                self.check_all_ways(item)
                self.check(item)

    def test_bags_within_blocks_and_blocks_within_bags(self):
        draw = random.Random(124)
        for _ in range(30):
            a, b, c, d, e = mixed_gates(draw, 5)
            for item in (Bag([Block([a, b]), Block([c, d]), e]), Block([Bag([a, b]), c, Bag([d, e])]),
                         Bag([Bag([a, b]), Bag([c, d, e])]), Block([a, Block([b, Bag([c, Block([d, e])])])])):
                self.check_all_ways(item)

    def test_one_part_may_stand_several_times(self):
        block = Block([THREE, ONE])
        item = Bag([block, TWO, block, Bag([block])])
        self.check_all_ways(item)
        self.assertEqual(leaves(item), [THREE, ONE, TWO, THREE, ONE, THREE, ONE])

    def test_large_items(self):
        draw = random.Random(125)
        for depth in (2, 3, 4, 5, 6):
            for _ in range(15):
                self.check(drawn_item(draw, depth, 30, 8))

    def test_items_at_the_limits(self):
        draw = random.Random(126)
        for kind in (drawn_gates, mixed_gates, great_gates):
            for held in KINDS:
                self.check(Bag([held(kind(draw, 4)) for _ in range(7)] + kind(draw, 1)))
                self.check(held([Bag(kind(draw, 8)), Block(kind(draw, 8)), Bag(kind(draw, 8)), *kind(draw, 5)]))
                item = held(kind(draw, 5))
                for inner in (Bag, Bag, Block, Bag, Bag):
                    item = inner(kind(draw, 2) + [item] + kind(draw, 3))
                self.assertEqual(len(leaves(item)), 30)
                self.check(item)

    def test_a_whole_that_is_best_takes_its_parts_at_their_best(self):
        draw = random.Random(127)
        for _ in range(10):
            bag = Bag(mixed_gates(draw, 4))
            whole = Block([*mixed_gates(draw, 1), bag, *mixed_gates(draw, 1)])
            inner = [number - 1 for number in solve(whole).order[1:-1]]
            self.assertEqual(result(bag.parts, inner), greatest_amount(bag.parts))


class WaysTest(unittest.TestCase):
    def test_ways(self):
        self.assertEqual(ways(GATE), 1)
        for count in range(1, 9):
            self.assertEqual(ways(Block([GATE] * count)), 1)
            self.assertEqual(ways(Bag([GATE] * count)), factorial(count))
        self.assertEqual(ways(Bag([Bag([ONE, TWO]), Block([Bag([ONE, TWO, THREE]), GATE]), GATE])), 6 * 2 * 6)
        self.assertEqual(ways(Block([Bag([ONE, TWO]), Bag([ONE, TWO, THREE])])), 12)
        self.assertEqual(ways(deep(6)), 1)
        many = Bag([Bag([GATE] * 4) for _ in range(6)] + [Bag([GATE] * 3)] * 2)
        self.assertEqual(ways(many), factorial(8) * factorial(4) ** 6 * factorial(3) ** 2)

    def test_leaves(self):
        item = Bag([ONE, Block([THREE, Bag([TWO, GATE]), ONE]), TWO])
        found = leaves(item)
        self.assertIsInstance(found, list)
        self.assertEqual(found, [ONE, THREE, TWO, GATE, ONE, TWO])
        found.append(GATE)
        self.assertEqual(len(leaves(item)), 6)
        self.assertEqual(leaves(GATE), [GATE])

    def test_by_keyword(self):
        item = Bag([ONE, TWO])
        self.assertEqual(ways(item=item), 2)
        self.assertEqual(leaves(item=item), [ONE, TWO])
        self.assertEqual(solve(item=item), solve(item))
        self.assertEqual(least(item=item), least(item))


if __name__ == "__main__":
    unittest.main()
