"""What several test files need: an independent calculation, and the error that a call raises."""

from fractions import Fraction
from functools import cmp_to_key
from itertools import permutations, product

from bestround.errors import GateError
from bestround.gates import Gate

DOC_GATES = (Gate((1, 2), (3, 1)), Gate((1, 1), (1, 1)), Gate((2, 1), (-1, 1)))


def pair(value):
    return (value.numerator, value.denominator)


def result(gates, order, x=Fraction(0)):
    """Pass the gates one by one; for x = 0 this is the amount of the line."""
    for index in order:
        x = Fraction(*gates[index].factor) * x + Fraction(*gates[index].amount)
    return x


def amounts(gates):
    """The amount of every order of the list."""
    return {order: result(gates, order) for order in permutations(range(len(gates)))}


def arrow_of(gate):
    return (1 - Fraction(*gate.factor), Fraction(*gate.amount))


def raised(call, *args, **more):
    """The class and the fields of the package's error, None if there is none; other errors pass."""
    try:
        call(*args, **more)
    except GateError as error:
        return (error.__class__.__name__, vars(error))
    return None


def bad_count(what, count):
    return ("BadCount", {"what": what, "count": count})


NO_ORDER = ("NoOrder", {})


def few_gates(count):
    """All lists of so many gates from a few that include equal, parallel and unchanging ones."""
    factors = ((1, 2), (1, 1), (2, 1))
    amounts_tried = ((-1, 1), (0, 1), (1, 1))
    pool = [Gate(factor, amount) for factor in factors for amount in amounts_tried]
    return [list(gates) for gates in product(pool, repeat=count)]


def drawn_gates(draw, count):
    """A list of gates with less even numbers, drawn by a seeded random source."""
    return [Gate((draw.randint(1, 9), draw.randint(1, 9)), (draw.randint(-9, 9), draw.randint(1, 9)))
            for _ in range(count)]


def parallel_gates(draw, count):
    """Gates with few directions, some opposite, some that change nothing."""
    gates = []
    for _ in range(count):
        factor = Fraction(draw.randint(1, 4), draw.randint(1, 4))
        amount = (1 - factor) * draw.choice([2, 2, -1])
        gates.append(Gate(pair(factor), pair(amount)))
    return gates


NOTHING = Gate((1, 1), (0, 1))
# The whole line of a best order changes nothing, so all its rotations are best.
CLOSED = (Gate((1, 1), (-12, 1)), Gate((1, 2), (0, 1)), Gate((1, 1), (6, 1)), Gate((2, 1), (0, 1)))
# Gates 0 and 1 have one direction; best orders begin with one of them or with both, and may end with the other.
SPLIT = (Gate((1, 2), (1, 1)), Gate((3, 4), (1, 2)), Gate((1, 1), (-4, 1)), Gate((3, 1), (0, 1)))


def great_gates(draw, count):
    """Gates with numbers up to the limit."""
    limit = 10 ** 6
    return [Gate((draw.randint(1, limit), draw.randint(1, limit)),
                 (draw.randint(-limit, limit), draw.randint(1, limit))) for _ in range(count)]


def mixed_gates(draw, count):
    """Gates from a small pool, so that some are equal, parallel, opposite, or change nothing."""
    factors = ((1, 2), (1, 1), (2, 1), (1, 4))
    return [Gate(draw.choice(factors), (draw.randint(-2, 2), draw.randint(1, 2))) for _ in range(count)]


def closing_gates(draw, count):
    """Gates whose best orders have a line that changes nothing."""
    factors = [draw.choice([Fraction(1, 2), Fraction(1), Fraction(2)]) for _ in range(count - 1)]
    known = [(factor, Fraction(draw.randint(-3, 3))) for factor in factors]
    product_of_all = Fraction(1)
    for factor in factors:
        product_of_all *= factor
    bounds = []
    for order in permutations(range(count)):
        amount, weight = Fraction(0), Fraction(0)
        for index in order:
            # The last gate is the one that closes: its factor is known, and its amount is weighed.
            if index == count - 1:
                amount, weight = amount / product_of_all, Fraction(1)
            else:
                amount, weight = known[index][0] * amount + known[index][1], known[index][0] * weight
        bounds.append(-amount / weight)
    known.append((1 / product_of_all, min(bounds)))
    return [Gate(pair(factor), pair(amount)) for factor, amount in known]


def tally(gates):
    """How many orders give each amount: all orders are passed, in whole numbers over one common bottom."""
    steps = []
    for gate in gates:
        (top, bottom), (lift, scale) = gate.factor, gate.amount
        steps.append((top * scale, lift * bottom, bottom * scale))
    found = {}

    def visit(left, top, bottom):
        if not left:
            found[Fraction(top, bottom)] = found.get(Fraction(top, bottom), 0) + 1
        for index in left:
            stretch, lift, scale = steps[index]
            visit(tuple(other for other in left if other != index), stretch * top + lift * bottom, scale * bottom)

    visit(tuple(range(len(gates))), 0, 1)
    return found


def half(arrow):
    """0 for directions from straight right to before straight left, 1 for the others."""
    across, up = arrow
    return 0 if up > 0 or (up == 0 and across > 0) else 1


def compare_directions(one, other):
    if half(one) != half(other):
        return half(one) - half(other)
    turned = one[0] * other[1] - one[1] * other[0]
    return (turned < 0) - (turned > 0)


def round_orders(gates):
    """All orders that pass the gates by the directions of their arrows once round, counterclockwise."""
    arrows = {index: arrow_of(gate) for index, gate in enumerate(gates)}
    still = [index for index in arrows if arrows[index] == (0, 0)]
    moving = sorted((index for index in arrows if arrows[index] != (0, 0)),
                    key=cmp_to_key(lambda one, other: compare_directions(arrows[one], arrows[other])))
    return [moving[cut:] + moving[:cut] + still for cut in range(max(1, len(moving)))]


def greatest_amount(gates):
    """The greatest amount of all orders, as [10] tells to find it."""
    return max(result(gates, order) for order in round_orders(gates))


def least_amount(gates):
    """The least amount of all orders: those of the greatest one, passed backward."""
    return min(result(gates, order[::-1]) for order in round_orders(gates))


def state_of(book):
    """All that a book tells of its state."""
    names = book.names()
    return names, [book.gate(name) for name in names], book.planned(), book.many()


def filled(book, gates, names):
    for name, gate in zip(names, gates):
        book.keep(name, gate)
    return book


def first_gain(gates, order):
    """The order after its first gain, and the worth, found by passing the gates; None if there is no gain."""
    many, amount = len(order), result(gates, order)
    for begin in range(many):
        for middle in range(begin + 1, many):
            for end in range(middle + 1, many + 1):
                other = order[:begin] + order[middle:end] + order[begin:middle] + order[end:]
                change = result(gates, other) - amount
                if change > 0:
                    return other, pair(change)
    return None


def smallest_best(gates):
    """The smallest best order, gate by gate: after each one, a round by direction must still reach the greatest."""
    goal = greatest_amount(gates)
    order, value, left = [], Fraction(0), list(range(len(gates)))

    def still_best(index):
        behind = [gates[other] for other in left if other != index]
        begun = result(gates, [index], value)
        return max(result(behind, round_order, begun) for round_order in round_orders(behind)) == goal

    while left:
        index = next(index for index in left if still_best(index))
        order.append(index)
        left.remove(index)
        value = result(gates, [index], value)
    return order
