"""Best orders by their beginnings, for lists of gates or lines of any size.

Later factors are above zero, so what is more before them is more behind them, too. Hence an order is best exactly
if each of its beginnings is best among the orders of the same gates. A set of gates is a number here, with the
bit 1 << index for each gate in it.
"""

from bestround.gates import Line
from bestround.ratios import ZERO, negative
from bestround.steps import passed, step_of


def best_lasts(gates):
    """Return for each set of gates the indexes of those that come last in a best order of the set."""
    steps = [step_of(gate) for gate in gates]
    results, lasts = [ZERO], [[]]
    for chosen in range(1, 1 << len(steps)):
        found = [(index, passed(step, results[chosen - (1 << index)]))
                 for index, step in enumerate(steps) if chosen & (1 << index)]
        # All these results have one bottom, so the greatest pair is the greatest fraction.
        greatest = max([result for index, result in found])
        results.append(greatest)
        lasts.append([index for index, result in found if result == greatest])
    return lasts


def best_order(gates):
    """Return the smallest list of indexes of all best orders."""
    lasts = best_lasts(gates)
    smallest = [[]]
    for chosen in range(1, len(lasts)):
        smallest.append(min([smallest[chosen - (1 << index)] + [index] for index in lasts[chosen]]))
    return smallest[-1]


def worst_order(gates):
    # With all amounts negated every order gives the negative of its amount.
    return best_order([Line(gate.factor, negative(gate.amount)) for gate in gates])


def is_best(gates, order):
    lasts = best_lasts(gates)
    begun = 0
    for index in order:
        begun += 1 << index
        if index not in lasts[begun]:
            return False
    return True


def count_best_orders(gates):
    lasts = best_lasts(gates)
    counts = [1]
    for chosen in range(1, len(lasts)):
        counts.append(sum([counts[chosen - (1 << index)] for index in lasts[chosen]]))
    return counts[-1]
