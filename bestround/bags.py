"""Gates that stay together: blocks in a fixed order, bags in any order."""

from bestround.beginnings import best_order, worst_order
from bestround.errors import BadCount
from bestround.gates import Gate, Line, passage

MOST_PARTS = 8
MOST_LEAVES = 30
MOST_DEPTH = 6


class Block:
    """An item whose parts are passed in the given order."""

    def __init__(self, parts):
        check_parts(parts)
        self.parts = tuple(parts)

    def __eq__(self, other):
        return isinstance(other, Block) and self.parts == other.parts


class Bag:
    """An item whose parts are passed in any order."""

    def __init__(self, parts):
        check_parts(parts)
        self.parts = tuple(parts)

    def __eq__(self, other):
        return isinstance(other, Bag) and self.parts == other.parts


class Solved:
    """The line of an item, and an order of the gates inside that gives it."""

    def __init__(self, line, order):
        self.line = line
        self.order = tuple(order)

    def __eq__(self, other):
        return isinstance(other, Solved) and self.line == other.line and self.order == other.order


def check_parts(parts):
    if not 1 <= len(parts) <= MOST_PARTS:
        raise BadCount("parts", len(parts))
    inside = sum([len(leaves(part)) for part in parts])
    if inside > MOST_LEAVES:
        raise BadCount("leaves", inside)
    depth = 1 + max([depth_of(part) for part in parts])
    if depth > MOST_DEPTH:
        raise BadCount("depth", depth)


def depth_of(item):
    if isinstance(item, Gate):
        return 0
    return 1 + max([depth_of(part) for part in item.parts])


def leaves(item):
    """Return the gates inside, in the order of their numbers."""
    if isinstance(item, Gate):
        return [item]
    found = []
    for part in item.parts:
        found.extend(leaves(part))
    return found


def ways(item):
    """Return the number of ways to pass the item."""
    if isinstance(item, Gate):
        return 1
    count = 1
    for place, part in enumerate(item.parts):
        count *= ways(part)
        if isinstance(item, Bag):
            count *= place + 1
    return count


def solved_by(item, choose):
    """Return the Solved of an item, where choose finds the order of the lines in each bag."""
    if isinstance(item, Gate):
        return Solved(Line(item.factor, item.amount), (0,))
    inner = [solved_by(part, choose) for part in item.parts]
    lines = [found.line for found in inner]
    places = choose(lines) if isinstance(item, Bag) else list(range(len(inner)))
    numbers = numbered([found.order for found in inner])
    order = []
    for place in places:
        order.extend(numbers[place])
    return Solved(passage(lines, places), order)


def numbered(orders):
    """Return the orders of neighbouring parts with the numbers that their gates have in the whole."""
    found, first = [], 0
    for order in orders:
        found.append([first + number for number in order])
        first += len(order)
    return found


def solve(item):
    """Return the Solved with the greatest amount."""
    return solved_by(item, best_order)


def least(item):
    """Return the Solved with the least amount."""
    return solved_by(item, worst_order)
