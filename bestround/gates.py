"""Gates, and the lines that describe a whole passage of them."""

from bestround.checks import check_fraction, check_gates, check_order
from bestround.errors import BadCount
from bestround.ratios import ONE, ZERO, lowest, minus, over, plus, sign, times
from bestround.vectors import cross


class Gate:
    """A gate turns x into factor * x + amount; its factor is above zero."""

    def __init__(self, factor, amount):
        check_fraction(factor)
        check_fraction(amount)
        # Only now, because the limits of both fractions come before this.
        if factor[0] < 1:
            raise BadCount("factor", factor[0])
        self.factor = lowest(factor)
        self.amount = lowest(amount)

    def __eq__(self, other):
        return isinstance(other, Gate) and self.factor == other.factor and self.amount == other.amount


class Line:
    """A whole passage turns x into factor * x + amount; there are no limits."""

    def __init__(self, factor, amount):
        self.factor = lowest(factor)
        self.amount = lowest(amount)

    def __eq__(self, other):
        return isinstance(other, Line) and self.factor == other.factor and self.amount == other.amount


def carry(line, x):
    return plus(times(line.factor, x), line.amount)


def rest(line):
    """Return the fraction that stays as it is, None if there is none, or "all"."""
    if line.factor != ONE:
        return over(line.amount, minus(ONE, line.factor))
    if line.amount == ZERO:
        return "all"
    return None


def passage(gates, order):
    """Return the Line of the whole passage of gates or lines, without any limits."""
    whole = Line(ONE, ZERO)
    for index in order:
        gate = gates[index]
        whole = Line(times(gate.factor, whole.factor), carry(gate, whole.amount))
    return whole


def line(gates, order):
    """Return the Line of the whole passage."""
    check_gates(gates)
    check_order(gates, order)
    return passage(gates, order)


def worth(gates, order, other):
    """Return the amount of the order less the amount of the other."""
    return minus(line(gates, order).amount, line(gates, other).amount)


def arrow(gate):
    return (minus(ONE, gate.factor), gate.amount)


def turn(one, other):
    """Return 1, -1 or 0: is passing the one directly before the other better, worse or the same?"""
    return sign(cross(arrow(one), arrow(other)))
