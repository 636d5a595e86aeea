"""Gates of which only bounds are known: what an order gives at least and at most, and whether it is surely best."""

from bestround.beginnings import is_best
from bestround.checks import check_loose, check_order
from bestround.gates import Gate
from bestround.paths import gain
from bestround.ratios import ZERO, below, greater, lowest, smaller
from bestround.steps import passed_all


class Loose:
    """A gate whose factor and amount lie anywhere between those of two gates."""

    def __init__(self, low, high):
        self.low = Gate(smaller(low.factor, high.factor), smaller(low.amount, high.amount))
        self.high = Gate(greater(low.factor, high.factor), greater(low.amount, high.amount))

    def __eq__(self, other):
        return isinstance(other, Loose) and self.low == other.low and self.high == other.high


class Spread:
    """The least and the greatest value, and corners at which they are reached."""

    def __init__(self, least, greatest, low, high):
        self.least = lowest(least)
        self.greatest = lowest(greatest)
        self.low = tuple(low)
        self.high = tuple(high)

    def __eq__(self, other):
        return (isinstance(other, Spread) and self.least == other.least and self.greatest == other.greatest
                and self.low == other.low and self.high == other.high)


class Doubt:
    """A corner at which an order is not best, and an exchange that is a gain there."""

    def __init__(self, corner, exchange):
        self.corner = tuple(corner)
        self.exchange = exchange

    def __eq__(self, other):
        return isinstance(other, Doubt) and self.corner == other.corner and self.exchange == other.exchange


def outer_values(low, high):
    # Bounds that are equal would only double the corners.
    return [low] if low == high else [low, high]


def outer_gates(loose):
    return [Gate(factor, amount) for factor in outer_values(loose.low.factor, loose.high.factor)
            for amount in outer_values(loose.low.amount, loose.high.amount)]


def corners(some):
    """Return all corners of a list of loose gates."""
    found = [[]]
    for loose in some:
        outer = outer_gates(loose)
        found = [[*corner, gate] for corner in found for gate in outer]
    return found


def spread_of(some, worth_at):
    """Return the Spread of what worth_at tells of each corner."""
    valued = [(worth_at(corner), corner) for corner in corners(some)]
    low = high = valued[0]
    for found in valued:
        if below(found[0], low[0]):
            low = found
        if below(high[0], found[0]):
            high = found
    return Spread(low[0], high[0], low[1], high[1])


def difference(gates, order, other):
    """Return the amount of the order less the amount of the other, not in lowest terms."""
    one, two = passed_all(gates, order, ZERO), passed_all(gates, other, ZERO)
    # Both have passed the same gates, so they have the same bottom.
    return (one[0] - two[0], one[1])


def spread(some, order, x):
    """Return the Spread of the result for x."""
    check_loose(some)
    check_order(some, order)
    return spread_of(some, lambda corner: passed_all(corner, order, x))


def compare(some, order, other):
    """Return the Spread of the amount of the order less the amount of the other."""
    check_loose(some)
    check_order(some, order)
    check_order(some, other)
    return spread_of(some, lambda corner: difference(corner, order, other))


def surely_best(some, order):
    """Return None if the order is best at all corners, otherwise a Doubt."""
    check_loose(some)
    check_order(some, order)
    for corner in corners(some):
        if not is_best(corner, order):
            return Doubt(corner, gain(corner, order))
    return None
