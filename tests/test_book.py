"""[17]: the book against a model of its own, its errors, back, and what it shares with nobody."""

import random
import re
import unittest
from string import ascii_lowercase, digits
from unittest.mock import ANY

from bestround.book import Book
from bestround.gates import Gate
from helpers import (DOC_GATES, NO_ORDER, NOTHING, bad_count, drawn_gates, filled, first_gain, mixed_gates, raised,
                     state_of)

ONE, TWO, THREE = DOC_GATES
EIGHT = ("a", "a0", "b", "b00", "c", "z9", "zz", "zzzzzzzz")
WRONG_NAMES = ("", "A", "aB", "1", "1a", "9z", "0", "a b", " a", "a ", " ", "a-b", "a_b", "_a", "a.", "-", "{a", "a{",
               "`a", "a`", "a/", "a:", "@", "[", "abcdefghi", "a12345678", "a" * 100, "Abcdefgh", "abcdefgH")
NOT_NAMES = (1, 0, True, None, b"a", 1.5, ("a",), ["a"], {"a": 1}, ONE, ANY, Book())
NO_BACK = ("NoBack", {})
EMPTY = ("Empty", {})


def no_name(name):
    return ("NoName", {"name": name})


def no_entry(name):
    return ("NoEntry", {"name": name})


class Model:
    """What a book does, in other words: each call returns the error that the book has to raise, or None."""

    def __init__(self):
        self.gates, self.order, self.past = {}, [], []

    def changed(self, gates, order):
        if (gates, order) != (self.gates, self.order):
            self.past.append((dict(self.gates), list(self.order)))
            self.gates, self.order = dict(gates), list(order)

    def keep(self, name, gate):
        if not re.fullmatch("[a-z][a-z0-9]{0,7}", name):
            return no_name(name)
        if len(set(self.gates) - {name}) == 8:
            return bad_count("gates", 9)
        self.changed({**self.gates, name: gate}, self.order + [name] * (name not in self.gates))

    def drop(self, name):
        if name not in self.gates:
            return no_entry(name)
        self.changed({key: gate for key, gate in self.gates.items() if key != name},
                     [key for key in self.order if key != name])

    def plan(self, names):
        if any(name.__class__ is not str for name in names) or sorted(names) != sorted(self.gates):
            return NO_ORDER
        self.changed(self.gates, list(names))

    def improve(self):
        if not self.gates:
            return EMPTY
        found = first_gain([self.gates[name] for name in self.order], list(range(len(self.order))))
        if found:
            self.changed(self.gates, [self.order[place] for place in found[0]])

    def back(self):
        if not self.past:
            return NO_BACK
        self.gates, self.order = self.past.pop()

    def state(self):
        names = sorted(self.gates)
        return names, [self.gates[name] for name in names], self.order, len(self.past)


def drawn_plan(draw, model):
    """Mostly a plan of the kept names, otherwise one with something wrong, sometimes with two things."""
    names = draw.sample(sorted(model.gates), len(model.gates))
    for _ in range(draw.choice([0, 0, 0, 1, 1, 2])):
        place = draw.randint(0, len(names))
        wrong = draw.choice([*EIGHT, "A", "", "nine", *NOT_NAMES])
        names = draw.choice([names[1:], names[:place] + [wrong] + names[place:], names[:-1] + [wrong]])
    return draw.choice([list, tuple])(names)


def drawn_call(draw, model, gates):
    """The name and the arguments of a call; gates come back often, and so do all names and more than eight."""
    action = draw.choice(["keep"] * 5 + ["drop"] * 2 + ["plan"] * 3 + ["improve"] * 4 + ["back"] * 3)
    name = draw.choice([*EIGHT, "nine", "x", draw.choice(WRONG_NAMES)])
    if action == "keep":
        return action, (name, draw.choice(gates))
    if action == "drop":
        return action, (name,)
    return action, (drawn_plan(draw, model),) if action == "plan" else ()


class ModelTest(unittest.TestCase):
    def test_drawn_calls(self):
        refused, changed = set(), set()
        for seed in range(12):
            draw = random.Random(1700 + seed)
            gates = drawn_gates(draw, 4) + mixed_gates(draw, 4) + [NOTHING]
            book, model = Book(), Model()
            for _ in range(250):
                action, arguments = drawn_call(draw, model, gates)
                many = len(model.past)
                wanted = getattr(model, action)(*arguments)
                self.assertEqual(raised(getattr(book, action), *arguments), wanted, (action, arguments))
                self.assertEqual(state_of(book), model.state())
                refused.add((action, wanted and wanted[0]))
                changed.add((action, len(model.past) - many))
        self.assertLessEqual({("keep", "NoName"), ("keep", "BadCount"), ("drop", "NoEntry"), ("plan", "NoOrder"),
                              ("improve", "Empty"), ("back", "NoBack"), ("back", None)}, refused)
        self.assertLessEqual({(action, count) for action in ("keep", "plan", "improve") for count in (0, 1)}, changed)

    def test_gates_that_are_not_there(self):
        book = filled(Book(), DOC_GATES, ("a", "b1", "c"))
        for name in ("", "A", "b", "b11", "abcdefghi", "gate", " a"):
            self.assertEqual(raised(book.gate, name), no_entry(name))
            self.assertEqual(raised(book.drop, name), no_entry(name))
        self.assertEqual(raised(Book().gate, "a"), no_entry("a"))
        self.assertEqual([book.gate(name) for name in ("a", "b1", "c")], list(DOC_GATES))

    def test_calls_that_change_tell_nothing(self):
        book = Book()
        for answer in (book.keep("a", ONE), book.keep("b", TWO), book.plan(["b", "a"]), book.drop("a"), book.back(),
                       book.keep("a", ONE)):
            self.assertIsNone(answer)


class NamesTest(unittest.TestCase):
    def test_valid_names(self):
        names = [*ascii_lowercase, *("a" + sign for sign in ascii_lowercase + digits),
                 *("abcdefg" + sign for sign in ascii_lowercase + digits), "z0000000", "a9"]
        for name in names:
            book = Book()
            book.keep(name, ONE)
            self.assertEqual(state_of(book), ([name], [ONE], [name], 1))

    def test_wrong_names(self):
        empty, full = Book(), filled(Book(), [ONE] * 8, EIGHT)
        for name in WRONG_NAMES:
            for book in (empty, full):
                before = state_of(book)
                self.assertEqual(raised(book.keep, name, TWO), no_name(name))
                self.assertEqual(state_of(book), before)

    def test_every_other_character_is_wrong(self):
        for sign in map(chr, range(32, 127)):
            valid = sign in ascii_lowercase
            for name, wanted in ((sign, valid), ("a" + sign + "b", valid or sign in digits), (sign + "1", valid)):
                self.assertEqual(raised(Book().keep, name, ONE), None if wanted else no_name(name))

    def test_names_are_in_ascending_order(self):
        draw = random.Random(171)
        for _ in range(20):
            names = draw.sample(EIGHT, 8)
            book = filled(Book(), [ONE] * 8, names)
            self.assertEqual((book.names(), book.planned()), (list(EIGHT), names))

    def test_eight_and_nine_names(self):
        book = filled(Book(), [ONE] * 8, EIGHT)
        before = state_of(book)
        self.assertEqual(before[3], 8)
        for name in ("nine", "a1", "zzzzzzz"):
            self.assertEqual(raised(book.keep, name, TWO), bad_count("gates", 9))
            self.assertEqual(state_of(book), before)
        book.keep("c", Gate((2, 4), (6, 2)))
        self.assertEqual(state_of(book), before)
        book.keep("c", TWO)
        self.assertEqual((book.gate("c"), book.planned(), book.many()), (TWO, list(EIGHT), 9))
        book.drop("a")
        book.keep("nine", TWO)
        self.assertEqual(book.planned(), [*EIGHT[1:], "nine"])
        self.assertEqual(raised(book.keep, "a", TWO), bad_count("gates", 9))


class PlanTest(unittest.TestCase):
    def check_refused(self, book, names):
        before = state_of(book)
        for kind in (list, tuple):
            self.assertEqual(raised(book.plan, kind(names)), NO_ORDER, names)
            self.assertEqual(state_of(book), before)

    def test_valid_plans(self):
        for kind in (list, tuple):
            book = filled(Book(), DOC_GATES, "abc")
            for names in ("bca", "cab", "abc"):
                book.plan(kind(names))
                self.assertEqual(book.planned(), list(names))
                self.assertIsInstance(book.planned(), list)
            self.assertEqual(book.many(), 6)
            book.plan(names=kind("abc"))
            self.assertEqual(book.many(), 6)

    def test_wrong_plans(self):
        book = filled(Book(), DOC_GATES, "abc")
        for names in ([], "a", "ab", "aabc", "abcd", "abca", "aab", "aaa", "bcd", "abC", ["a", "b", "c", ""],
                      ["ab", "c"], ["a", "b", " c"], ["abc"], ["a", "b", "c", "", ""]):
            self.check_refused(book, list(names))
        eight = filled(Book(), [ONE] * 8, EIGHT)
        for names in (EIGHT[:7], EIGHT[:7] + EIGHT[:1], EIGHT + EIGHT[:1], EIGHT + ("nine",), EIGHT[:7] + ("nine",)):
            self.check_refused(eight, names)

    def test_things_of_other_kinds(self):
        book = filled(Book(), DOC_GATES, "abc")
        for thing in NOT_NAMES:
            for names in (["a", "b", thing], [thing, "b", "c"], ["a", "b", "c", thing], ["a", thing, "b", "c"],
                          [thing], [thing] * 3):
                self.check_refused(book, names)
            self.check_refused(Book(), [thing])

    def test_empty_book(self):
        book = Book()
        for names in ([], ()):
            book.plan(names)
            self.assertEqual(state_of(book), ([], [], [], 0))
        self.check_refused(book, ["a"])
        self.check_refused(book, [""])
        book.keep("a", ONE)
        self.check_refused(book, [])
        book.drop("a")
        book.plan([])
        self.assertEqual(state_of(book), ([], [], [], 2))

    def test_plan_follows_keep_and_drop(self):
        book = filled(Book(), DOC_GATES, "cab")
        self.assertEqual(book.planned(), ["c", "a", "b"])
        book.keep("a", NOTHING)
        self.assertEqual(book.planned(), ["c", "a", "b"])
        book.plan(list("bca"))
        book.drop("c")
        self.assertEqual(book.planned(), ["b", "a"])
        book.keep("c", ONE)
        self.assertEqual(book.planned(), ["b", "a", "c"])


class BackTest(unittest.TestCase):
    def test_after_each_kind_of_change(self):
        book = filled(Book(), DOC_GATES, "zxy")
        book.plan(["y", "x", "z"])
        changes = [lambda: book.keep("a", ONE), lambda: book.keep("x", NOTHING), lambda: book.drop("x"),
                   lambda: book.drop("y"), lambda: book.plan(["x", "y", "z"]), book.improve]
        for change in changes:
            before = state_of(book)
            change()
            self.assertEqual(book.many(), before[3] + 1)
            self.assertNotEqual(state_of(book)[:3], before[:3])
            book.back()
            self.assertEqual(state_of(book), before)

    def test_what_changes_nothing_is_not_undone(self):
        book = filled(Book(), DOC_GATES, "abc")
        before = state_of(book)
        book.keep("b", Gate([2, 2], [3, 3]))
        book.plan(("a", "b", "c"))
        self.assertIsNone(book.improve())
        self.assertEqual(state_of(book), before)
        book.back()
        self.assertEqual(state_of(book), (["a", "b"], [ONE, TWO], ["a", "b"], 2))

    def test_two_hundred_changes(self):
        draw = random.Random(172)
        book, states = Book(), [([], [], [], 0)]
        gates = drawn_gates(draw, 30)
        while len(states) <= 200:
            action, arguments = drawn_call(draw, Model(), gates)
            if action == "plan":
                arguments = (draw.sample(book.names(), len(book.names())),)
            if action != "back":
                raised(getattr(book, action), *arguments)
            if book.many() == len(states):
                states.append(state_of(book))
        while states:
            self.assertEqual(state_of(book), states.pop())
            self.assertEqual(raised(book.back), None if states else NO_BACK)
        self.assertEqual(state_of(book), ([], [], [], 0))

    def test_new_changes_after_back(self):
        book = filled(Book(), DOC_GATES, "abc")
        book.back()
        book.back()
        book.keep("d", THREE)
        self.assertEqual(state_of(book), (["a", "d"], [ONE, THREE], ["a", "d"], 2))
        book.back()
        self.assertEqual(state_of(book), (["a"], [ONE], ["a"], 1))
        book.back()
        self.assertEqual(raised(book.back), NO_BACK)
        self.assertEqual(raised(Book().back), NO_BACK)


class OwnStateTest(unittest.TestCase):
    def test_lists_that_were_passed_or_returned(self):
        book = filled(Book(), DOC_GATES, "abc")
        names = ["c", "b", "a"]
        book.plan(names)
        before = state_of(book)
        names.reverse()
        for returned in (names, book.names(), book.planned(), book.best()):
            returned.append("d")
            returned[0] = "e"
        self.assertEqual(state_of(book), before)
        book.back()
        book.planned().clear()
        self.assertEqual(state_of(book), (["a", "b", "c"], list(DOC_GATES), ["a", "b", "c"], 3))

    def test_plans_are_not_changed_by_the_book(self):
        names = ["c", "b", "a"]
        book = filled(Book(), DOC_GATES, "abc")
        book.plan(names)
        book.improve()
        book.drop("a")
        book.keep("d", ONE)
        self.assertEqual(names, ["c", "b", "a"])

    def test_a_returned_gate_stays_as_it_was(self):
        book = filled(Book(), [ONE], "a")
        gate = book.gate("a")
        book.keep("a", TWO)
        self.assertEqual((gate, gate.factor, gate.amount), (ONE, (1, 2), (3, 1)))
        book.drop("a")
        book.back()
        book.back()
        self.assertEqual((gate, book.gate("a")), (ONE, ONE))

    def test_two_books(self):
        one, other = filled(Book(), DOC_GATES, "abc"), filled(Book(), DOC_GATES, "abc")
        before = state_of(other)
        one.plan(["c", "b", "a"])
        one.improve()
        one.drop("b")
        one.keep("d", NOTHING)
        self.assertEqual(state_of(other), before)
        self.assertEqual(state_of(Book()), ([], [], [], 0))

    def test_by_keyword(self):
        book = Book()
        book.keep(gate=ONE, name="a")
        book.keep(name="b", gate=TWO)
        self.assertEqual(book.gate(name="b"), TWO)
        book.plan(names=("b", "a"))
        self.assertEqual(book.planned(), ["b", "a"])
        book.drop(name="a")
        self.assertEqual(state_of(book), (["b"], [TWO], ["b"], 4))


if __name__ == "__main__":
    unittest.main()
