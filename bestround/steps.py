"""Passages in whole numbers, which spare the reducing to lowest terms after every gate.

A step (stretch, lift, scale) turns top / bottom into (stretch * top + lift * bottom) / (scale * bottom). So the
same steps end with the same bottom in every order, and the tops alone tell which order gives more.
"""


def step_of(gate):
    """Return the step of a gate or a line."""
    top, bottom = gate.factor
    lift, scale = gate.amount
    return (top * scale, lift * bottom, bottom * scale)


def passed(step, fraction):
    """Return the result of one step, not in lowest terms."""
    stretch, lift, scale = step
    top, bottom = fraction
    return (stretch * top + lift * bottom, scale * bottom)


def passed_all(gates, order, fraction):
    """Return the result of all gates in this order, not in lowest terms."""
    for index in order:
        fraction = passed(step_of(gates[index]), fraction)
    return fraction
