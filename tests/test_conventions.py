"""[1], [2]: what holds over the whole program, tried with calls of every function of the interface."""

import os
import subprocess
import sys
import unittest
from copy import deepcopy
from math import gcd
from pathlib import Path

from bestround import bags, book, bounds, desk, gates, gatetexts, leads, paths, rounds, slacks
from bestround.gates import Gate, Line
from helpers import DOC_GATES, filled, state_of

ROOT = Path(__file__).resolve().parent.parent
WIDE = bounds.Loose(Gate((1, 2), (1, 1)), Gate((3, 2), (-2, 1)))
SOME = [WIDE, bounds.Loose(DOC_GATES[0], DOC_GATES[1]), WIDE]
BAG = bags.Bag([DOC_GATES[0], bags.Block([DOC_GATES[2], bags.Bag([DOC_GATES[1], DOC_GATES[0]])])])
LIST = list(DOC_GATES)
# Each function of the interface with arguments by keyword; every sequence in them is a list.
CALLS = (
    (gates.carry, {"line": Line([2, 4], [6, 2]), "x": [4, 6]}), (gates.rest, {"line": DOC_GATES[0]}),
    (gates.line, {"gates": LIST, "order": [1, 0, 2]}),
    (gates.worth, {"gates": LIST, "order": [0, 1, 2], "other": [2, 1, 0]}),
    (gates.turn, {"one": DOC_GATES[0], "other": DOC_GATES[1]}), (paths.points, {"gates": LIST, "order": [2, 0, 1]}),
    (paths.gain, {"gates": LIST, "order": [2, 1, 0]}), (rounds.best, {"gates": LIST}), (rounds.worst, {"gates": LIST}),
    (rounds.ends, {"gates": LIST, "x": [4, 6]}), (rounds.climb, {"gates": LIST, "order": [2, 1, 0]}),
    (rounds.count_best, {"gates": LIST}), (slacks.slack, {"gates": LIST, "order": [0, 1, 2], "index": 1}),
    (bags.solve, {"item": BAG}), (bags.least, {"item": BAG}), (bags.ways, {"item": BAG}), (bags.leaves, {"item": BAG}),
    (bounds.spread, {"some": SOME, "order": [1, 0, 2], "x": [-6, 4]}),
    (bounds.compare, {"some": SOME, "order": [1, 0, 2], "other": [2, 0, 1]}),
    (bounds.surely_best, {"some": SOME, "order": [1, 0, 2]}),
    (leads.lead, {"gates": LIST, "x": [0, 3], "goal": [14, 2]}),
    (gatetexts.fraction_text, {"fraction": [-6, 4]}), (gatetexts.read_fraction, {"text": "-6/4"}),
    (gatetexts.gate_text, {"gate": DOC_GATES[0]}), (gatetexts.read_gate, {"text": "2/4 -6"}),
)
# One object of each class, made twice from equal fields.
MAKERS = (
    lambda kind: Gate(kind([2, 4]), kind([3, 1])), lambda kind: Line(kind([2, 4]), kind([3, 1])),
    lambda kind: paths.Exchange(0, 1, 2, kind([2, 4])), lambda kind: bags.Block(kind(LIST)),
    lambda kind: bags.Bag(kind(LIST)), lambda kind: bags.Solved(Line((1, 2), (3, 1)), kind([0, 1])),
    lambda kind: bounds.Loose(*kind(LIST[:2])), lambda kind: bounds.Doubt(kind(LIST), paths.Exchange(0, 1, 2, (1, 2))),
    lambda kind: bounds.Spread(kind([0, 4]), kind([6, 3]), kind(LIST), kind(LIST)),
)
FIELDS = (("factor", "amount"), ("factor", "amount"), ("begin", "middle", "end", "worth"), ("parts",), ("parts",),
          ("line", "order"), ("low", "high"), ("corner", "exchange"), ("least", "greatest", "low", "high"))


def as_tuples(thing):
    return tuple(as_tuples(part) for part in thing) if isinstance(thing, list) else thing


def shown(thing):
    """A result in full, with the kinds of all its parts."""
    if isinstance(thing, (list, tuple)):
        return thing.__class__.__name__, [shown(part) for part in thing]
    return (thing.__class__.__name__, shown(list(vars(thing).values()))) if hasattr(thing, "__dict__") else repr(thing)


def fields_of(thing):
    """All sequences in a result, those in the fields of objects too."""
    if isinstance(thing, (list, tuple)):
        yield thing
        for part in thing:
            yield from fields_of(part)
    elif hasattr(thing, "__dict__"):
        for part in vars(thing).values():
            yield from fields_of(part)


def spoil(thing):
    """Change every list of a result."""
    if isinstance(thing, list):
        for part in thing:
            spoil(part)
        thing.append("spoiled")


def all_shown():
    """What a whole session shows, books and desks included."""
    kept = filled(book.Book(), DOC_GATES, ("zz", "a0", "a"))
    teller = desk.Desk()
    rows = ["keep b 2 -1", "keep a 1/2 3", "best", "names", "improve", "planned", "count", "ends 1/3", "amount", "x"]
    parts = [call(**arguments) for call, arguments in CALLS]
    parts += [kept.best(), kept.best_amount(), kept.improve(), *state_of(kept)] + [teller.tell(row) for row in rows]
    return repr([shown(part) for part in parts])


class CallsTest(unittest.TestCase):
    def test_lists_and_tuples_and_the_same_result_every_time(self):
        for call, arguments in CALLS:
            first = shown(call(**arguments))
            tuples = {name: as_tuples(value) for name, value in arguments.items()}
            for found in (call(**arguments), call(*arguments.values()), call(**tuples), call(*tuples.values())):
                self.assertEqual(shown(found), first, call.__name__)

    def test_arguments_are_not_changed(self):
        for call, arguments in CALLS:
            kept = deepcopy(arguments)
            call(**arguments)
            self.assertEqual(shown(list(arguments.values())), shown(list(kept.values())), call.__name__)

    def test_returned_lists_are_new(self):
        for call, arguments in CALLS:
            found = call(**arguments)
            before = shown(found)
            spoil(found)
            self.assertEqual(shown(call(**arguments)), before, call.__name__)

    def test_returned_pairs_are_tuples_and_fractions_in_lowest_terms(self):
        lists = (paths.points, rounds.best, rounds.worst, rounds.climb, bags.leaves, leads.lead)
        for call, arguments in CALLS:
            found = any(isinstance(row, list) for row in fields_of(call(**arguments)))
            self.assertEqual(found, call in lists, call.__name__)
        for call in (gates.carry, gates.rest, gates.line, gates.worth, paths.points, paths.gain, rounds.ends,
                     slacks.slack, bags.leaves, bounds.spread, bounds.compare, gatetexts.read_fraction,
                     gatetexts.read_gate):
            arguments = dict(CALLS)[call]
            pairs = [row for row in fields_of(call(**arguments)) if isinstance(row, tuple)
                     and [part.__class__ for part in row] == [int, int]]
            self.assertTrue(pairs)
            for top, bottom in pairs:
                self.assertEqual((gcd(top, bottom), bottom > 0), (1, True), call.__name__)


class ObjectsTest(unittest.TestCase):
    def test_fields_are_set_when_the_object_is_made(self):
        for maker, fields in zip(MAKERS, FIELDS):
            self.assertEqual(tuple(vars(maker(list))), fields)

    def test_no_field_holds_a_list(self):
        for maker in MAKERS:
            for field in vars(maker(list)).values():
                self.assertNotIsInstance(field, list)
                self.assertFalse(any(isinstance(row, list) for row in fields_of(field)))

    def test_equality(self):
        for at, one in enumerate(MAKERS):
            for place, other in enumerate(MAKERS):
                self.assertEqual(one(list) == other(tuple), at == place)
                self.assertEqual(one(list) != other(tuple), at != place)
            made = one(list)
            for thing in (tuple(vars(made).values()), vars(made), None, 0, "", book.Book()):
                self.assertFalse(made == thing)


class SurroundingsTest(unittest.TestCase):
    def test_the_same_in_every_process(self):
        rows = "import sys; sys.path[:0] = ['tests', '.']; import test_conventions; print(test_conventions.all_shown())"
        for seed in ("0", "1", "77"):
            shown_there = subprocess.run([sys.executable, "-c", rows], cwd=ROOT, capture_output=True, text=True,
                                         env={**os.environ, "PYTHONHASHSEED": seed}, check=True).stdout
            self.assertEqual(shown_there.strip(), all_shown())


if __name__ == "__main__":
    unittest.main()
