"""How far the amount of one gate may be changed so that a best order stays best."""

from bestround.beginnings import is_best
from bestround.checks import check_gates, check_order
from bestround.errors import NoGate, NotBest
from bestround.paths import block_pairs, later_factors, points
from bestround.ratios import greater, minus, negative, over, sign, smaller, times
from bestround.vectors import between, cross


def bends(gates, order, place):
    """Return for each exchange that moves the gate at this place how far the path turns left there, and its growth.

    The growth is what an amount greater by 1 adds to the turn: it raises one of the two arrows by its weight.
    """
    path = points(gates, order)
    weight = later_factors(gates, order)[place + 1]
    found = []
    for begin, middle, end in block_pairs(len(gates)):
        first = between(path[begin], path[middle])
        second = between(path[middle], path[end])
        if begin <= place < middle:
            found.append((cross(first, second), times(weight, negative(second[0]))))
        elif middle <= place < end:
            found.append((cross(first, second), times(weight, first[0])))
    return found


def slack(gates, order, index):
    """Return the least and the greatest amount of the gate with which the order is best, None for no bound."""
    check_gates(gates)
    check_order(gates, order)
    if not 0 <= index < len(gates):
        raise NoGate(index)
    if not is_best(gates, order):
        raise NotBest()
    amount = gates[index].amount
    least, greatest = None, None
    for bend, growth in bends(gates, order, list(order).index(index)):
        if sign(growth) == 0:
            continue
        # The order is best as long as no turn is a right one, that is below zero.
        bound = minus(amount, over(bend, growth))
        if sign(growth) > 0:
            least = bound if least is None else greater(least, bound)
        else:
            greatest = bound if greatest is None else smaller(greatest, bound)
    return (least, greatest)
