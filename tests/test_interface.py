"""The interface: names, places, arguments, and methods in the very class."""

import inspect
import unittest

from bestround import bags, book, bounds, desk, errors, gates, gatetexts, leads, paths, rounds, slacks

ARGUMENTS = {
    gates: {
        "Gate": ["factor", "amount"], "Line": ["factor", "amount"], "carry": ["line", "x"], "rest": ["line"],
        "line": ["gates", "order"], "worth": ["gates", "order", "other"], "turn": ["one", "other"],
    },
    paths: {
        "points": ["gates", "order"], "Exchange": ["begin", "middle", "end", "worth"], "gain": ["gates", "order"],
    },
    rounds: {
        "best": ["gates"], "worst": ["gates"], "ends": ["gates", "x"], "climb": ["gates", "order"],
        "count_best": ["gates"],
    },
    slacks: {"slack": ["gates", "order", "index"]},
    bags: {
        "Block": ["parts"], "Bag": ["parts"], "Solved": ["line", "order"], "solve": ["item"], "least": ["item"],
        "ways": ["item"], "leaves": ["item"],
    },
    bounds: {
        "Loose": ["low", "high"], "Spread": ["least", "greatest", "low", "high"], "Doubt": ["corner", "exchange"],
        "spread": ["some", "order", "x"], "compare": ["some", "order", "other"], "surely_best": ["some", "order"],
    },
    leads: {"lead": ["gates", "x", "goal"]},
    book: {"Book": []},
    gatetexts: {
        "fraction_text": ["fraction"], "read_fraction": ["text"], "gate_text": ["gate"], "read_gate": ["text"],
    },
    desk: {"Desk": []},
}
METHODS = {
    book.Book: {
        "keep": ["name", "gate"], "drop": ["name"], "gate": ["name"], "names": [], "best": [], "best_amount": [],
        "plan": ["names"], "planned": [], "improve": [], "many": [], "back": [],
    },
    desk.Desk: {"tell": ["row"]},
}


class InterfaceTest(unittest.TestCase):
    def test_names_and_arguments(self):
        for module, names in ARGUMENTS.items():
            for name, arguments in names.items():
                thing = getattr(module, name)
                self.assertEqual(list(inspect.signature(thing).parameters), arguments, name)

    def test_each_name_is_defined_in_its_file(self):
        for module, names in ARGUMENTS.items():
            for name in names:
                self.assertEqual(getattr(module, name).__module__, module.__name__, name)

    def test_every_error_has_told_in_its_own_body(self):
        for name in ("BadCount", "NoOrder", "NoGate", "NotBest", "NoName", "NoEntry", "Empty", "NoBack", "BadText"):
            kind = getattr(errors, name)
            self.assertIn("told", vars(kind), name)
            self.assertEqual(kind.__module__, "bestround.errors")

    def test_methods_stand_in_the_very_class(self):
        for kind, methods in METHODS.items():
            for name, arguments in methods.items():
                self.assertIn(name, vars(kind))
                self.assertEqual(list(inspect.signature(vars(kind)[name]).parameters)[1:], arguments, name)

    def test_arguments_by_keyword(self):
        gate = gates.Gate(factor=(1, 2), amount=(3, 1))
        self.assertEqual((gate.factor, gate.amount), ((1, 2), (3, 1)))
        whole = gates.Line(amount=(3, 1), factor=(1, 2))
        self.assertEqual(gates.carry(line=whole, x=(4, 1)), (5, 1))
        self.assertEqual(gates.rest(line=whole), (6, 1))
        self.assertEqual(gates.line(order=[0], gates=[gate]), whole)
        self.assertEqual(gates.worth(gates=[gate], order=[0], other=[0]), (0, 1))
        self.assertEqual(gates.turn(one=gate, other=gate), 0)
        self.assertEqual(paths.points(gates=[gate], order=[0])[1], ((1, 2), (3, 1)))
        self.assertIsNone(paths.gain(gates=[gate], order=[0]))
        exchange = paths.Exchange(worth=(1, 2), end=3, middle=2, begin=1)
        self.assertEqual((exchange.begin, exchange.middle, exchange.end, exchange.worth), (1, 2, 3, (1, 2)))


if __name__ == "__main__":
    unittest.main()
