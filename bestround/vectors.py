"""Points and arrows of the plane: pairs of fractions."""

from bestround.ratios import minus, plus, times


def moved(point, arrow):
    return (plus(point[0], arrow[0]), plus(point[1], arrow[1]))


def between(start, goal):
    """Return the arrow from the start to the goal."""
    return (minus(goal[0], start[0]), minus(goal[1], start[1]))


def stretched(arrow, factor):
    return (times(arrow[0], factor), times(arrow[1], factor))


def cross(one, other):
    """Return the cross product: above zero if the other arrow points to the left of the one."""
    return minus(times(one[0], other[1]), times(one[1], other[0]))
