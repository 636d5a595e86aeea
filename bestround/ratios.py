"""Exact arithmetic with fractions: pairs (top, bottom) whose bottom is at least 1.

What is passed may be a list and need not be in lowest terms. What is returned is a tuple in lowest terms.
"""

ZERO = (0, 1)
ONE = (1, 1)


def common_divisor(one, other):
    while other:
        one, other = other, one % other
    return one


def lowest(fraction):
    top, bottom = fraction
    divisor = common_divisor(top, bottom)
    return (top // divisor, bottom // divisor)


def plus(one, other):
    return lowest((one[0] * other[1] + other[0] * one[1], one[1] * other[1]))


def minus(one, other):
    return lowest((one[0] * other[1] - other[0] * one[1], one[1] * other[1]))


def negative(fraction):
    return lowest((-fraction[0], fraction[1]))


def times(one, other):
    return lowest((one[0] * other[0], one[1] * other[1]))


def over(one, other):
    """Return one / other; the other must not be zero."""
    top = one[0] * other[1]
    bottom = one[1] * other[0]
    # The bottom of a fraction is never negative, so the top carries the sign.
    if bottom < 0:
        return lowest((-top, -bottom))
    return lowest((top, bottom))


def sign(fraction):
    top = fraction[0]
    if top > 0:
        return 1
    if top < 0:
        return -1
    return 0


def below(one, other):
    return one[0] * other[1] < other[0] * one[1]


def same(one, other):
    return one[0] * other[1] == other[0] * one[1]


def smaller(one, other):
    return lowest(other) if below(other, one) else lowest(one)


def greater(one, other):
    return lowest(other) if below(one, other) else lowest(one)
