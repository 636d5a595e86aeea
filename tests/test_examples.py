"""All examples of the document, copied from it word for word."""

import unittest

from bestround.errors import GateError

EXAMPLES = """
>>> from bestround.gates import Gate
>>> Gate((0, 1), (1, 1))
raises BadCount(what='factor', count=0)

>>> from bestround.gates import Gate
>>> Gate((2000000, 2), (1, 1))
raises BadCount(what='number', count=2000000)

>>> from bestround.gates import Gate
>>> gate = Gate((2, 4), (3, 1))
>>> (gate.factor, gate.amount)
((1, 2), (3, 1))

>>> from bestround.gates import Gate, carry
>>> carry(Gate((1, 2), (3, 1)), (4, 1))
(5, 1)

>>> from bestround.gates import Gate, rest
>>> (rest(Gate((1, 2), (3, 1))), rest(Gate((1, 1), (0, 1))), rest(Gate((1, 1), (2, 1))))
((6, 1), 'all', None)

>>> from bestround.gates import Gate, line
>>> gates = [Gate((1, 2), (3, 1)), Gate((1, 1), (1, 1)), Gate((2, 1), (-1, 1))]
>>> whole = line(gates, [0, 1, 2])
>>> (whole.factor, whole.amount)
((1, 1), (7, 1))

>>> from bestround.gates import Gate, line
>>> gates = [Gate((1, 2), (3, 1)), Gate((1, 1), (1, 1)), Gate((2, 1), (-1, 1))]
>>> line(gates, [0, 1, 1])
raises NoOrder

>>> from bestround.gates import Gate, worth
>>> gates = [Gate((1, 2), (3, 1)), Gate((1, 1), (1, 1)), Gate((2, 1), (-1, 1))]
>>> worth(gates, [0, 1, 2], [2, 1, 0])
(4, 1)

>>> from bestround.gates import Gate, turn
>>> gates = [Gate((1, 2), (3, 1)), Gate((1, 1), (1, 1)), Gate((2, 1), (-1, 1))]
>>> turn(gates[0], gates[1])
1

>>> from bestround.gates import Gate
>>> from bestround.paths import points
>>> gates = [Gate((1, 2), (3, 1)), Gate((1, 1), (1, 1)), Gate((2, 1), (-1, 1))]
>>> points(gates, [0, 1, 2])
[((0, 1), (0, 1)), ((1, 1), (6, 1)), ((1, 1), (8, 1)), ((0, 1), (7, 1))]

>>> from bestround.gates import Gate
>>> from bestround.paths import gain
>>> gates = [Gate((1, 2), (3, 1)), Gate((1, 1), (1, 1)), Gate((2, 1), (-1, 1))]
>>> found = gain(gates, [2, 1, 0])
>>> (found.begin, found.middle, found.end, found.worth)
(0, 1, 2, (1, 2))

>>> from bestround.gates import Gate
>>> from bestround.paths import gain
>>> gates = [Gate((1, 2), (3, 1)), Gate((1, 1), (1, 1)), Gate((2, 1), (-1, 1))]
>>> gain(gates, [0, 1, 2])
None

>>> from bestround.gates import Gate
>>> from bestround.rounds import best, worst
>>> gates = [Gate((1, 2), (3, 1)), Gate((1, 1), (1, 1)), Gate((2, 1), (-1, 1))]
>>> (best(gates), worst(gates))
([0, 1, 2], [2, 1, 0])

>>> from bestround.gates import Gate
>>> from bestround.rounds import ends
>>> gates = [Gate((1, 2), (3, 1)), Gate((1, 1), (1, 1)), Gate((2, 1), (-1, 1))]
>>> ends(gates, (0, 1))
((3, 1), (7, 1))

>>> from bestround.gates import Gate
>>> from bestround.rounds import climb
>>> gates = [Gate((1, 2), (3, 1)), Gate((1, 1), (1, 1)), Gate((2, 1), (-1, 1))]
>>> climb(gates, [2, 1, 0])
[[2, 1, 0], [1, 2, 0], [0, 1, 2]]

>>> from bestround.gates import Gate
>>> from bestround.rounds import count_best
>>> gates = [Gate((1, 2), (3, 1)), Gate((1, 1), (1, 1)), Gate((2, 1), (-1, 1))]
>>> (count_best(gates), count_best(gates + [Gate((1, 1), (0, 1))]))
(1, 4)

>>> from bestround.gates import Gate
>>> from bestround.rounds import count_best
>>> count_best([Gate((1, 1), (-12, 1)), Gate((1, 2), (0, 1)), Gate((1, 1), (6, 1)), Gate((2, 1), (0, 1))])
4

>>> from bestround.gates import Gate
>>> from bestround.slacks import slack
>>> gates = [Gate((1, 2), (3, 1)), Gate((1, 1), (1, 1)), Gate((2, 1), (-1, 1))]
>>> slack(gates, [0, 1, 2], 1)
((0, 1), None)

>>> from bestround.gates import Gate
>>> from bestround.slacks import slack
>>> gates = [Gate((1, 2), (3, 1)), Gate((1, 1), (1, 1)), Gate((2, 1), (-1, 1))]
>>> slack(gates, [2, 1, 0], 1)
raises NotBest

>>> from bestround.gates import Gate
>>> from bestround.bags import Bag, Block, solve, ways
>>> gates = [Gate((1, 2), (3, 1)), Gate((1, 1), (1, 1)), Gate((2, 1), (-1, 1))]
>>> bag = Bag([gates[0], Block([gates[2], gates[1]])])
>>> found = solve(bag)
>>> (found.line.amount, found.order, ways(bag))
((6, 1), (0, 1, 2), 2)

>>> from bestround.gates import Gate
>>> from bestround.bags import Bag
>>> Bag([])
raises BadCount(what='parts', count=0)

>>> from bestround.gates import Gate
>>> from bestround.bounds import Loose
>>> loose = Loose(Gate((1, 2), (3, 1)), Gate((1, 1), (2, 1)))
>>> (loose.low.factor, loose.low.amount, loose.high.factor, loose.high.amount)
((1, 2), (2, 1), (1, 1), (3, 1))

>>> from bestround.gates import Gate
>>> from bestround.bounds import Loose, compare
>>> first = Gate((1, 2), (3, 1))
>>> some = [Loose(first, first), Loose(Gate((1, 1), (1, 1)), Gate((1, 1), (2, 1)))]
>>> found = compare(some, [0, 1], [1, 0])
>>> (found.least, found.greatest)
((1, 2), (1, 1))

>>> from bestround.gates import Gate
>>> from bestround.bounds import Loose, surely_best
>>> first = Gate((1, 2), (3, 1))
>>> some = [Loose(first, first), Loose(Gate((1, 1), (1, 1)), Gate((1, 1), (2, 1)))]
>>> doubt = surely_best(some, [1, 0])
>>> (surely_best(some, [0, 1]), doubt.exchange.begin, doubt.exchange.middle, doubt.exchange.end)
(None, 0, 1, 2)

>>> from bestround.gates import Gate
>>> from bestround.leads import lead
>>> gates = [Gate((1, 2), (3, 1)), Gate((1, 1), (1, 1)), Gate((2, 1), (-1, 1))]
>>> lead(gates[:2], (0, 1), (4, 1))
[(0, 1)]

>>> from bestround.gates import Gate
>>> from bestround.book import Book
>>> book = Book()
>>> book.keep('x', Gate((2, 1), (-1, 1)))
>>> book.keep('y', Gate((1, 2), (3, 1)))
>>> won = book.improve()
>>> (won, book.planned(), book.best())
((5, 2), ['y', 'x'], ['y', 'x'])

>>> from bestround.book import Book
>>> Book().best()
raises Empty

>>> from bestround.gatetexts import fraction_text, read_fraction
>>> (fraction_text((-3, 6)), read_fraction('6/4'))
('-1/2', (3, 2))

>>> from bestround.gatetexts import read_fraction
>>> read_fraction('3/1')
raises BadText(place=0)

>>> from bestround.gatetexts import gate_text, read_gate
>>> gate_text(read_gate('2/4 3'))
'1/2 3'

>>> from bestround.desk import Desk
>>> desk = Desk()
>>> desk.tell('keep a 1/2 3')
>>> desk.tell('keep b 1 1')
>>> desk.tell('ends 0')
['7/2 4']

>>> from bestround.desk import Desk
>>> desk = Desk()
>>> desk.tell('amount')
['refused empty']
"""


def told_error(error):
    fields = ", ".join(f"{name}={value!r}" for name, value in vars(error).items())
    return f"raises {error.__class__.__name__}" + (f"({fields})" if fields else "")


def last_answer(rows):
    """Run the rows of a session and show the last result, or the error that the last row raises."""
    names = {}
    for row in rows[:-1]:
        exec(row, names)
    try:
        return repr(eval(rows[-1], names))
    except GateError as error:
        return told_error(error)


class ExamplesTest(unittest.TestCase):
    def test_examples(self):
        blocks = EXAMPLES.strip().split("\n\n")
        for block in blocks:
            *rows, wanted = block.split("\n")
            with self.subTest(block=block):
                self.assertEqual(last_answer([row.removeprefix(">>> ") for row in rows]), wanted)


if __name__ == "__main__":
    unittest.main()
