"""The limits of fractions, lists of gates, orders and names."""

from bestround.errors import BadCount, NoName, NoOrder

GREATEST_NUMBER = 1000000
MOST_GATES = 8
MOST_LOOSE = 4
MOST_CHARACTERS = 8
LETTERS = "abcdefghijklmnopqrstuvwxyz"
DIGITS = "0123456789"


def check_fraction(fraction):
    top, bottom = fraction
    if bottom < 1:
        raise BadCount("bottom", bottom)
    for number in (top, bottom):
        if not -GREATEST_NUMBER <= number <= GREATEST_NUMBER:
            raise BadCount("number", number)


def check_gates(gates, most=MOST_GATES):
    if not 1 <= len(gates) <= most:
        raise BadCount("gates", len(gates))


def check_loose(some):
    if not 1 <= len(some) <= MOST_LOOSE:
        raise BadCount("loose", len(some))


def is_number(thing):
    # Python counts True and False as integers; the package does not.
    return isinstance(thing, int) and not isinstance(thing, bool)


def is_order(order, many):
    if len(order) != many:
        return False
    seen = set()
    for index in order:
        if not is_number(index) or not 0 <= index < many:
            return False
        seen.add(index)
    return len(seen) == many


def check_order(gates, order):
    if not is_order(order, len(gates)):
        raise NoOrder()


def only_of(text, characters):
    return all([character in characters for character in text])


def check_name(name):
    if not 1 <= len(name) <= MOST_CHARACTERS:
        raise NoName(name)
    if name[0] not in LETTERS or not only_of(name, LETTERS + DIGITS):
        raise NoName(name)
