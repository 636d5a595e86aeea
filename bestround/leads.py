"""The orders that lead from one number to another."""

from bestround.checks import check_gates
from bestround.ratios import same
from bestround.steps import passed, step_of

MOST_LEADING = 6


def lead(gates, x, goal):
    """Return all orders that turn x into goal, as a sorted list of tuples."""
    check_gates(gates, MOST_LEADING)
    steps = [step_of(gate) for gate in gates]
    begun = [((), x)]
    while len(begun[0][0]) < len(steps):
        # Each beginning grows by ascending indexes, so that they stay sorted.
        begun = [((*order, index), passed(step, value)) for order, value in begun
                 for index, step in enumerate(steps) if index not in order]
    return [order for order, value in begun if same(value, goal)]
