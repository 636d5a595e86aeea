"""[17]: the best order of a book by its names, its amount, and improving the plan."""

import random
import unittest
from fractions import Fraction
from itertools import permutations

from bestround.book import Book
from bestround.gates import Gate
from bestround.paths import gain
from bestround.rounds import climb
from helpers import (CLOSED, DOC_GATES, NOTHING, SPLIT, amounts, closing_gates, drawn_gates, filled, first_gain,
                     great_gates, greatest_amount, mixed_gates, pair, parallel_gates, raised, result, smallest_best,
                     state_of, tally)

EMPTY = ("Empty", {})
# Some are beginnings of others, so that it matters whether lists of names or their texts are compared.
NAMES = ("a", "aa", "ab", "a0", "a00", "b", "b9", "ba", "z", "zz", "zzzzzzzz", "m1", "m10")
# Each one undoes the one before.
UNDOING = [Gate((2, 1), (3, 1)), Gate((1, 2), (-3, 2)), Gate((1, 1), (5, 1)), Gate((1, 1), (-5, 1))]
ONE_WAY = [Gate((1, 2), (1, 1)), Gate((1, 4), (3, 2)), Gate((3, 4), (1, 2))]
TWO_WAYS = ONE_WAY + [Gate((2, 1), (-2, 1)), Gate((3, 1), (-4, 1))]


def lists(counts):
    draw = random.Random(173)
    for count in counts:
        for _ in range(4):
            for kind in (drawn_gates, parallel_gates, mixed_gates, great_gates):
                yield kind(draw, count)
        yield [DOC_GATES[0]] * count
        yield [NOTHING] * (count - 1) + [DOC_GATES[2]]
        for pool in (list(CLOSED) + UNDOING, list(SPLIT) + TWO_WAYS, TWO_WAYS + [NOTHING] * 3, UNDOING * 2,
                     [*DOC_GATES, *DOC_GATES, NOTHING, NOTHING], [*CLOSED, NOTHING, NOTHING, *CLOSED]):
            yield pool[:count]
            yield draw.sample(pool, count)
        if 2 <= count <= 6:
            yield closing_gates(draw, count)


class BestTest(unittest.TestCase):
    def check(self, draw, gates, find):
        """Keep the gates under drawn names in a drawn order; find takes the gates in the order of their names."""
        names = sorted(draw.sample(NAMES, len(gates)))
        pairs = draw.sample(list(zip(names, gates)), len(gates))
        book = filled(Book(), [gate for _, gate in pairs], [name for name, _ in pairs])
        before = state_of(book)
        order, amount = find(gates)
        self.assertEqual(book.best(), [names[index] for index in order])
        self.assertEqual(book.best_amount(), pair(amount))
        self.assertIsInstance(book.best(), list)
        self.assertIsInstance(book.best_amount(), tuple)
        self.assertEqual(state_of(book), before)

    def by_all_orders(self, gates):
        known = amounts(gates)
        greatest = max(known.values())
        return min(order for order in known if known[order] == greatest), greatest

    def by_rounds(self, gates):
        return smallest_best(gates), greatest_amount(gates)

    def test_against_all_orders(self):
        draw = random.Random(174)
        for gates in lists((1, 2, 3, 4, 5)):
            self.check(draw, gates, self.by_all_orders)
        for gates in list(lists((6,)))[::3]:
            self.check(draw, gates, self.by_all_orders)

    def test_seven_and_eight_gates_by_rounds(self):
        draw = random.Random(175)
        for gates in lists((6, 7, 8)):
            self.check(draw, gates, self.by_rounds)

    def test_the_other_way_against_all_orders(self):
        for gates in list(lists((1, 2, 3, 4, 5)))[::3]:
            self.assertEqual(tuple(smallest_best(gates)), self.by_all_orders(gates)[0])

    def test_rotations_of_a_closed_order(self):
        # All four rotations of a best order are best; the names decide which one it is.
        book = filled(Book(), CLOSED, "abcd")
        first = book.best()
        self.assertEqual(first[0], "a")
        for names in permutations("abcd"):
            book = filled(Book(), CLOSED, names)
            turned = [names["abcd".index(name)] for name in first]
            self.assertEqual(book.best(), min(turned[cut:] + turned[:cut] for cut in range(4)))
            self.assertEqual(book.best_amount(), (0, 1))

    def test_equal_gates_are_passed_by_their_names(self):
        names = list(NAMES[:8])
        for gate in (DOC_GATES[0], NOTHING):
            self.assertEqual(filled(Book(), [gate] * 8, names[::-1]).best(), sorted(names))

    def test_lists_of_names_are_compared_and_not_their_texts(self):
        # The gates are alike, so their names are best in ascending order, although "a0" + "a" is the smaller text.
        self.assertEqual(filled(Book(), [NOTHING] * 2, ("a0", "a")).best(), ["a", "a0"])

    def test_great_numbers(self):
        gates = great_gates(random.Random(176), 7)
        book = filled(Book(), gates, NAMES)
        self.assertEqual(book.best_amount(), pair(max(tally(gates))))

    def test_the_plan_does_not_matter(self):
        book = filled(Book(), DOC_GATES, "abc")
        for names in permutations("abc"):
            book.plan(names)
            self.assertEqual((book.best(), book.best_amount()), (["a", "b", "c"], (7, 1)))

    def test_empty_book(self):
        book = Book()
        for _ in range(2):
            for call in (book.best, book.best_amount, book.improve):
                self.assertEqual(raised(call), EMPTY)
            self.assertEqual(book.many(), 0)
        book.keep("a", NOTHING)
        self.assertEqual((book.best(), book.best_amount(), book.improve()), (["a"], (0, 1), None))
        book.drop("a")
        for call in (book.best, book.best_amount, book.improve):
            self.assertEqual(raised(call), EMPTY)
        self.assertEqual(book.many(), 2)


class ImproveTest(unittest.TestCase):
    def check(self, gates, plan):
        names = [name for name, _ in zip(NAMES, gates)]
        book = filled(Book(), gates, names)
        book.plan([names[index] for index in plan])
        start, order = state_of(book), list(plan)
        steps = climb(gates, plan)
        for step in steps[1:]:
            many = book.many()
            wanted = first_gain(gates, order)
            self.assertEqual(book.improve(), wanted[1])
            order = wanted[0]
            self.assertEqual(order, step)
            self.assertEqual(book.planned(), [names[index] for index in order])
            self.assertEqual(book.many(), many + 1)
        before = state_of(book)
        self.assertIsNone(book.improve())
        self.assertEqual(state_of(book), before)
        self.assertIsNone(gain(gates, order))
        self.assertEqual(pair(result(gates, order)), book.best_amount())
        for _ in steps[1:]:
            book.back()
        self.assertEqual(state_of(book), start)

    def test_document(self):
        book = filled(Book(), (Gate((2, 1), (-1, 1)), Gate((1, 2), (3, 1))), "xy")
        won = book.improve()
        self.assertEqual((won, book.planned(), book.best()), ((5, 2), ["y", "x"], ["y", "x"]))
        self.assertIsInstance(won, tuple)

    def test_until_nothing_is_left(self):
        draw = random.Random(177)
        for gates in list(lists((1, 2, 3, 4, 5, 6, 7)))[::5]:
            self.check(gates, draw.sample(range(len(gates)), len(gates)))

    def test_eight_gates(self):
        draw = random.Random(178)
        for gates in (great_gates(draw, 8), drawn_gates(draw, 8), mixed_gates(draw, 8), great_gates(draw, 8)):
            self.check(gates, draw.sample(range(8), 8))

    def test_all_plans_of_some_gates(self):
        for gates in (DOC_GATES, CLOSED, SPLIT):
            for plan in permutations(range(len(gates))):
                self.check(gates, list(plan))

    def test_worths_add_up(self):
        draw = random.Random(179)
        gates = great_gates(draw, 8)
        book = filled(Book(), gates, NAMES)
        amount = result(gates, range(8))
        while (won := book.improve()) is not None:
            self.assertGreater(Fraction(*won), 0)
            amount += Fraction(*won)
        self.assertEqual(pair(amount), book.best_amount())
        self.assertEqual(amount, greatest_amount(gates))


if __name__ == "__main__":
    unittest.main()
