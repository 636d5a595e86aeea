"""Best and worst orders of a list of gates, how many are best, and the climb to one."""

from bestround.beginnings import best_order, count_best_orders, worst_order
from bestround.checks import check_gates
from bestround.gates import carry, passage
from bestround.paths import exchanged, gain


def best(gates):
    """Return an order with the greatest amount."""
    check_gates(gates)
    return best_order(gates)


def worst(gates):
    """Return an order with the smallest amount."""
    check_gates(gates)
    return worst_order(gates)


def ends(gates, x):
    """Return the least and the greatest result for x over all orders."""
    check_gates(gates)
    return (carry(passage(gates, worst_order(gates)), x), carry(passage(gates, best_order(gates)), x))


def climb(gates, order):
    """Return the orders from this one to a best one, each the first gain of the one before."""
    found = gain(gates, order)
    orders = [list(order)]
    while found is not None:
        orders.append(exchanged(orders[-1], found))
        found = gain(gates, orders[-1])
    return orders


def count_best(gates):
    """Return the number of all best orders."""
    check_gates(gates)
    return count_best_orders(gates)
