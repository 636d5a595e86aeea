"""What several test files need: an independent calculation, and the error that a call raises."""

from fractions import Fraction
from itertools import permutations, product

from bestround.errors import GateError
from bestround.gates import Gate

DOC_GATES = (Gate((1, 2), (3, 1)), Gate((1, 1), (1, 1)), Gate((2, 1), (-1, 1)))


def pair(value):
    return (value.numerator, value.denominator)


def result(gates, order, x=Fraction(0)):
    """Pass the gates one by one; for x = 0 this is the amount of the line."""
    for index in order:
        x = Fraction(*gates[index].factor) * x + Fraction(*gates[index].amount)
    return x


def amounts(gates):
    """The amount of every order of the list."""
    return {order: result(gates, order) for order in permutations(range(len(gates)))}


def arrow_of(gate):
    return (1 - Fraction(*gate.factor), Fraction(*gate.amount))


def raised(call, *args, **more):
    """The class and the fields of the package's error, None if there is none; other errors pass."""
    try:
        call(*args, **more)
    except GateError as error:
        return (error.__class__.__name__, vars(error))
    return None


def bad_count(what, count):
    return ("BadCount", {"what": what, "count": count})


NO_ORDER = ("NoOrder", {})


def few_gates(count):
    """All lists of so many gates from a few that include equal, parallel and unchanging ones."""
    factors = ((1, 2), (1, 1), (2, 1))
    amounts_tried = ((-1, 1), (0, 1), (1, 1))
    pool = [Gate(factor, amount) for factor in factors for amount in amounts_tried]
    return [list(gates) for gates in product(pool, repeat=count)]


def drawn_gates(draw, count):
    """A list of gates with less even numbers, drawn by a seeded random source."""
    return [Gate((draw.randint(1, 9), draw.randint(1, 9)), (draw.randint(-9, 9), draw.randint(1, 9)))
            for _ in range(count)]


def parallel_gates(draw, count):
    """Gates with few directions, some opposite, some that change nothing."""
    gates = []
    for _ in range(count):
        factor = Fraction(draw.randint(1, 4), draw.randint(1, 4))
        amount = (1 - factor) * draw.choice([2, 2, -1])
        gates.append(Gate(pair(factor), pair(amount)))
    return gates
