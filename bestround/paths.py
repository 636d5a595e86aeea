"""The path of an order, and the exchanges of neighbouring blocks that make it better."""

from bestround.checks import check_gates, check_order
from bestround.gates import arrow
from bestround.ratios import ONE, ZERO, lowest, over, sign, times
from bestround.vectors import between, cross, moved, stretched


class Exchange:
    """The exchange of order[begin:middle] and order[middle:end], and what it adds to the amount."""

    def __init__(self, begin, middle, end, worth):
        self.begin = begin
        self.middle = middle
        self.end = end
        self.worth = lowest(worth)

    def __eq__(self, other):
        return (isinstance(other, Exchange) and self.begin == other.begin and self.middle == other.middle
                and self.end == other.end and self.worth == other.worth)


def later_factors(gates, order):
    """Return for each place of the order, and for its end, the product of the factors from there on."""
    backward = [ONE]
    for index in reversed(order):
        backward.append(times(backward[-1], gates[index].factor))
    return backward[::-1]


def points(gates, order):
    """Return the path of the order: one more points than there are gates."""
    check_gates(gates)
    check_order(gates, order)
    factors = later_factors(gates, order)
    path = [(ZERO, ZERO)]
    for place, index in enumerate(order):
        step = stretched(arrow(gates[index]), factors[place + 1])
        path.append(moved(path[-1], step))
    return path


def block_pairs(many):
    """Return begin, middle and end of all pairs of neighbouring blocks, in ascending order."""
    return [(begin, middle, end) for begin in range(many) for middle in range(begin + 1, many)
            for end in range(middle + 1, many + 1)]


def exchanged(order, exchange):
    """Return a new order, in which the two blocks of the exchange have changed places."""
    begin, middle, end = exchange.begin, exchange.middle, exchange.end
    old = list(order)
    return old[:begin] + old[middle:end] + old[begin:middle] + old[end:]


def gain(gates, order):
    """Return the first exchange that increases the amount of the whole, None if there is none."""
    path = points(gates, order)
    factors = later_factors(gates, order)
    for begin, middle, end in block_pairs(len(gates)):
        first = between(path[begin], path[middle])
        second = between(path[middle], path[end])
        # A right turn is a gain, and cross counts left turns as positive: hence second before first.
        change = over(cross(second, first), factors[middle])
        if sign(change) > 0:
            return Exchange(begin, middle, end, change)
    return None
