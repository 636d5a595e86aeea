"""A desk that takes commands for a book as texts and answers them with texts."""

from bestround.book import Book
from bestround.errors import BadText, GateError
from bestround.gates import carry, line
from bestround.gatetexts import fraction_text, gate_text, read_fraction, read_gate
from bestround.rounds import count_best, ends


def planned_gates(book):
    return book.gates_of(book.planned())


def tell_back(book):
    book.back()
    return ["done"]


def tell_names(book):
    return book.names()


def tell_best(book):
    return book.best()


def tell_planned(book):
    return book.planned()


def tell_amount(book):
    return [fraction_text(book.best_amount())]


def tell_improve(book):
    worth = book.improve()
    return ["best" if worth is None else fraction_text(worth)]


def tell_count(book):
    return [str(count_best(planned_gates(book)))]


def tell_drop(book, name):
    book.drop(name)
    return ["done"]


def tell_gate(book, name):
    return [gate_text(book.gate(name))]


def tell_carry(book, x):
    gates = planned_gates(book)
    return [fraction_text(carry(line(gates, list(range(len(gates)))), x))]


def tell_ends(book, x):
    least, greatest = ends(planned_gates(book), x)
    return [fraction_text(least) + " " + fraction_text(greatest)]


def tell_keep(book, name, factor, amount):
    book.keep(name, read_gate(factor + " " + amount))
    return ["done"]


def tell_plan(book, names):
    book.plan(names)
    return ["done"]


ALONE = {"back": tell_back, "names": tell_names, "best": tell_best, "planned": tell_planned, "amount": tell_amount,
         "improve": tell_improve, "count": tell_count}
WITH_NAME = {"drop": tell_drop, "gate": tell_gate}
WITH_FRACTION = {"carry": tell_carry, "ends": tell_ends}


def answer(book, row):
    """Return the answer to a command; raise BadText for what is none, and the errors of the command."""
    word, *more = row.split(" ")
    if "" in more:
        raise BadText(0)
    if word in ALONE and not more:
        action = ALONE[word]
        return action(book)
    if word in WITH_NAME and len(more) == 1:
        action = WITH_NAME[word]
        return action(book, more[0])
    if word in WITH_FRACTION and len(more) == 1:
        action = WITH_FRACTION[word]
        return action(book, read_fraction(more[0]))
    if word == "keep" and len(more) == 3:
        return tell_keep(book, more[0], more[1], more[2])
    if word == "plan" and more:
        return tell_plan(book, more)
    raise BadText(0)


class Desk:
    """A book that is told commands."""

    def __init__(self):
        self.book = Book()

    def tell(self, row):
        """Return the answer to a command, one string for each part of it."""
        try:
            return answer(self.book, row)
        except GateError as error:
            return [error.told()]
