"""A book that keeps gates by name, with a plan of the order in which to pass them."""

from bestround.beginnings import best_order
from bestround.checks import MOST_GATES, check_name
from bestround.errors import BadCount, Empty, NoBack, NoEntry, NoOrder
from bestround.gates import passage
from bestround.paths import exchanged, gain


class Book:
    """Gates by name, a plan, and all the changes that led to them."""

    def __init__(self):
        # A change replaces this dict and this list and never modifies them, so the past may keep them as they are.
        self.kept = {}
        self.course = []
        self.past = []

    def change(self, kept, course):
        if kept == self.kept and course == self.course:
            return
        self.past.append((self.kept, self.course))
        self.kept = kept
        self.course = course

    def keep(self, name, gate):
        """Store a gate; a new name is appended to the plan."""
        check_name(name)
        kept, course = dict(self.kept), list(self.course)
        if name not in kept:
            if len(kept) == MOST_GATES:
                raise BadCount("gates", MOST_GATES + 1)
            course.append(name)
        kept[name] = gate
        self.change(kept, course)

    def drop(self, name):
        """Remove a gate, from the plan too."""
        kept, course = dict(self.kept), list(self.course)
        if name not in kept:
            raise NoEntry(name)
        del kept[name]
        course.remove(name)
        self.change(kept, course)

    def gate(self, name):
        if name not in self.kept:
            raise NoEntry(name)
        return self.kept[name]

    def names(self):
        """Return all names in ascending order."""
        return sorted(self.kept)

    def gates_of(self, names):
        """Return the gates with these names; there has to be one at least."""
        if not names:
            raise Empty()
        return [self.kept[name] for name in names]

    def best(self):
        """Return the smallest list of names of all best orders."""
        names = self.names()
        # The gates stand in the order of their names, so the smallest indexes stand for the smallest names.
        return [names[index] for index in best_order(self.gates_of(names))]

    def best_amount(self):
        gates = self.gates_of(self.names())
        return passage(gates, best_order(gates)).amount

    def plan(self, names):
        """Store a plan: every kept name once, and nothing else."""
        if not all([isinstance(name, str) for name in names]) or sorted(names) != self.names():
            raise NoOrder()
        self.change(self.kept, list(names))

    def planned(self):
        return list(self.course)

    def improve(self):
        """Make the first gain of the plan and return its worth, None if there is none."""
        gates = self.gates_of(self.course)
        found = gain(gates, list(range(len(gates))))
        if found is None:
            return None
        self.change(self.kept, exchanged(self.course, found))
        return found.worth

    def back(self):
        """Undo the last change."""
        if not self.past:
            raise NoBack()
        self.kept, self.course = self.past.pop()

    def many(self):
        """Return the number of changes that can be undone."""
        return len(self.past)
