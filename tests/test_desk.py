"""[19]: the desk, each command against a book of the test's own and the functions for the same call."""

import random
import re
import unittest
from itertools import product

from bestround.book import Book
from bestround.desk import Desk
from bestround.errors import GateError
from bestround.gates import carry, line
from bestround.gatetexts import fraction_text, gate_text, read_fraction, read_gate
from bestround.rounds import count_best, ends

FRACTION = r"(0|-?[1-9][0-9]{0,6})(/([2-9]|[1-9][0-9]{1,6}))?"
COMMAND = re.compile(f"back|names|best|planned|amount|improve|count|(drop|gate) [^ ]+|(carry|ends) {FRACTION}|"
                     f"plan( [^ ]+)+|keep [^ ]+ {FRACTION} {FRACTION}")
WORDS = ("keep", "drop", "plan", "back", "gate", "names", "best", "planned", "amount", "carry", "ends", "improve",
         "count")
BADTEXT, EMPTY, DONE = ["refused badtext"], ["refused empty"], ["done"]
# What the document's commands need behind their first word.
NEEDED = {"drop": "a", "gate": "a", "carry": "1/2", "ends": "1/2", "plan": "a", "keep": "a 1/2 3"}


def planned_gates(book):
    return [book.gate(name) for name in book.planned()]


def line_of(gates):
    return line(gates, list(range(len(gates))))


def answer(book, row):
    """What a desk with this book answers to a command that is well formed."""
    word, *more = row.split(" ")
    if word in ("back", "drop", "plan", "keep"):
        if word == "keep":
            book.keep(more[0], read_gate(" ".join(more[1:])))
        elif word == "plan":
            book.plan(more)
        else:
            getattr(book, word)(*more)
        return DONE
    if word in ("names", "best", "planned"):
        return getattr(book, word)()
    if word == "improve":
        worth = book.improve()
        return ["best" if worth is None else fraction_text(worth)]
    if word == "gate":
        return [gate_text(book.gate(more[0]))]
    amount = book.best_amount()
    if word == "amount":
        return [fraction_text(amount)]
    if word == "count":
        return [str(count_best(planned_gates(book)))]
    x = read_fraction(more[0])
    if word == "carry":
        return [fraction_text(carry(line_of(planned_gates(book)), x))]
    return [" ".join(fraction_text(end) for end in ends(planned_gates(book), x))]


def wanted(book, row):
    if not COMMAND.fullmatch(row):
        return BADTEXT
    try:
        return answer(book, row)
    except GateError as error:
        return ["refused " + error.__class__.__name__.lower()]


def told(rows):
    """The answers of a new desk to some commands."""
    desk = Desk()
    return [desk.tell(row) for row in rows]


def state_of(desk):
    """All that a desk tells of its state; taking back everything would show the number of changes."""
    names = desk.tell("names")
    return names, [desk.tell("gate " + name) for name in names], desk.tell("planned")


def drawn_fraction(draw):
    top = draw.choice([0, 1, 2, 3, 5, -1, -2, -7, 12, 9999999])
    bottom = draw.choice([1, 1, 2, 3, 4, 9, 1000001 if draw.random() < 0.1 else 10])
    return fraction_text((top, bottom)) if draw.random() < 0.9 else draw.choice(["-0", "3/1", "1/0", "01", "x", ""])


def drawn_row(draw, desk):
    """Mostly a well-formed command that fits the state of the desk, sometimes one that is not."""
    word = draw.choice(WORDS + ("keep",) * 8 + ("improve", "plan", "drop"))
    name = draw.choice(["a", "b", "c", "c1", "keep", "best", "back", "x", "y", "z", "A", "1", "waytoolong"])
    more = {"drop": [name], "gate": [name], "carry": [drawn_fraction(draw)], "ends": [drawn_fraction(draw)],
            "keep": [name, drawn_fraction(draw).removeprefix("-"), drawn_fraction(draw)]}.get(word, [])
    if word == "plan":
        names = desk.tell("names")
        more = draw.sample(names, len(names)) + [name] * (draw.random() < 0.1)
    row = " ".join([word, *more])
    if draw.random() < 0.1:
        row = draw.choice([row + " ", " " + row, row.replace(" ", "  "), row + " a", row[:-1], row.upper(), ""])
    return row


class CommandsTest(unittest.TestCase):
    def test_document(self):
        self.assertEqual(told(["keep a 1/2 3", "keep b 1 1", "ends 0"]), [DONE, DONE, ["7/2 4"]])
        self.assertEqual(told(["amount"]), [EMPTY])

    def test_each_command(self):
        rows = (("keep a 2 -1", DONE), ("keep b 2/2", BADTEXT), ("keep b 3/4 0/5", DONE), ("keep c 2/4 3", DONE),
                ("gate b", ["3/4 0"]), ("gate c", ["1/2 3"]), ("names", ["a", "b", "c"]),
                ("planned", ["a", "b", "c"]), ("carry 0", ["21/8"]), ("carry -5/3", ["11/8"]), ("ends 0", ["15/8 5"]),
                ("ends 4/3", ["23/8 6"]), ("count", ["1"]), ("amount", ["5"]), ("best", ["b", "c", "a"]),
                ("improve", ["19/8"]), ("planned", ["b", "c", "a"]), ("improve", ["best"]), ("carry 0", ["5"]),
                ("back", DONE), ("planned", ["a", "b", "c"]), ("plan c b a", DONE), ("improve", ["3/2"]),
                ("back", DONE), ("planned", ["c", "b", "a"]), ("carry 0", ["7/2"]), ("drop b", DONE),
                ("planned", ["c", "a"]), ("gate b", ["refused noentry"]), ("amount", ["5"]), ("improve", ["best"]),
                ("keep b 1 0", DONE), ("count", ["3"]), ("best", ["b", "c", "a"]), ("planned", ["c", "a", "b"]))
        book, desk = Book(), Desk()
        for row, answered in rows:
            self.assertEqual(desk.tell(row), answered, row)
            self.assertEqual(wanted(book, row), answered, row)
        self.assertEqual(desk.tell(row="names"), ["a", "b", "c"])

    def test_drawn_commands(self):
        seen = set()
        for seed in range(25):
            draw = random.Random(1900 + seed)
            book, desk = Book(), Desk()
            for _ in range(120):
                row = drawn_row(draw, desk)
                found = desk.tell(row)
                self.assertEqual(found, wanted(book, row), row)
                self.assertIsInstance(found, list)
                self.assertEqual(state_of(desk), (book.names(), [[gate_text(book.gate(name))] for name in book.names()],
                                                  book.planned()))
                seen.add((row.split(" ")[0], found[0] if found and found[0].startswith("refused") else ""))
            while book.many():
                self.assertEqual(desk.tell("back"), wanted(book, "back"))
            self.assertEqual(desk.tell("back"), ["refused noback"])
        self.assertLessEqual({(word, answered) for word in WORDS for answered in ("", "refused badtext")}, seen)
        self.assertLessEqual({("keep", "refused noname"), ("keep", "refused badcount"), ("plan", "refused noorder"),
                              ("drop", "refused noentry"), ("gate", "refused noentry"), ("back", "refused noback")},
                             seen)

    def test_names_that_are_command_words(self):
        rows = [f"keep {word} 1/2 {place}" for place, word in enumerate(WORDS[:8])]
        desk = Desk()
        for row in rows:
            self.assertEqual(desk.tell(row), DONE)
        self.assertEqual(desk.tell("names"), sorted(WORDS[:8]))
        self.assertEqual(desk.tell("planned"), list(WORDS[:8]))
        self.assertEqual(desk.tell("plan " + " ".join(WORDS[:8][::-1])), DONE)
        self.assertEqual([desk.tell("gate " + word) for word in WORDS[:8]], [[f"1/2 {k}"] for k in range(8)])
        self.assertEqual([desk.tell("drop " + word) for word in WORDS[:8]], [DONE] * 8)
        self.assertEqual(desk.tell("planned"), [])

    def test_great_numbers(self):
        book, desk = Book(), Desk()
        for place in range(8):
            row = f"keep n{place} {999983 - place}/{1000000 - place} -{999961 + place}/{999999 - 2 * place}"
            self.assertEqual((desk.tell(row), wanted(book, row)), (DONE, DONE))
        for row in ("amount", "carry 9999999/9999998", "ends -9999999/9999998", "improve", "count", "best"):
            self.assertEqual(desk.tell(row), wanted(book, row))

    def test_more_best_orders(self):
        desk = Desk()
        for name in "abcdefgh":
            desk.tell(f"keep {name} 1 0")
        self.assertEqual(desk.tell("count"), ["40320"])


class RefusedTest(unittest.TestCase):
    def check(self, rows, answered, before=("keep a 1/2 3", "keep b 1 1")):
        """Each of the rows gets this answer and changes nothing."""
        desk = Desk()
        for row in before:
            self.assertEqual(desk.tell(row), DONE)
        state = state_of(desk)
        for row in rows:
            self.assertEqual(desk.tell(row), answered, row)
            self.assertEqual(state_of(desk), state)
        for _ in before:
            self.assertEqual(desk.tell("back"), DONE)
        self.assertEqual(desk.tell("back"), ["refused noback"])

    def test_unknown_commands(self):
        rows = ["", " ", "x", "a", "Back", "BACK", "backs", "bac", "keepa 1 1", "many", "line", "lead 0 1", "refused",
                "best_amount", "done", "0", "1/2", "told", "tell back", "count\t", "back\n", "names,", "?", "~"]
        self.check(rows, BADTEXT)
        self.check(rows, BADTEXT, before=())

    def test_too_few_and_too_many_words(self):
        rows = [word + " a" for word in WORDS if word not in NEEDED] + [word for word in NEEDED]
        rows += [f"{word} {more} {extra}" for word, more in NEEDED.items() if word != "plan" for extra in ("a", "1")]
        rows += ["keep a", "keep a 1", "keep 1 1", "keep a 1 1 1", "carry 1 2", "ends 1 2", "drop a b", "gate a b"]
        self.check(rows, BADTEXT)
        self.check(rows, BADTEXT, before=())

    def test_blanks(self):
        rows = []
        for word in WORDS:
            row = f"{word} {NEEDED[word]}" if word in NEEDED else word
            rows += [" " + row, row + " ", "  " + row, row + "  ", " " + row + " "]
            rows += [row[:place] + " " + row[place:] for place, sign in enumerate(row) if sign == " "]
        self.check(rows + ["plan a b ", "plan a  b", "plan  a b", "plan ", "keep  1 1", "keep a  1", "drop ", "gate  "],
                   BADTEXT)

    def test_malformed_fractions(self):
        wrong = ("x", "-0", "-0/5", "3/1", "3/0", "01", "+1", "1/02", "12345678", "1/12345678", "1/2/3", "1.5", "--1",
                 "/", "1/", "-")
        for text in wrong:
            self.check([f"carry {text}", f"ends {text}", f"keep c {text} 1", f"keep c 1 {text}", f"keep c 0 {text}",
                        f"keep C {text} 1", f"keep C 1 {text}"], BADTEXT)

    def test_badtext_comes_before_everything_else(self):
        # Each of these would be refused for another reason as well.
        self.check(["carry", "carry 3/1", "ends x", "ends", "count 1", "best 1", "amount a", "improve 1", "back 1",
                    "drop", "drop a b", "gate a b", "plan", "plan a ", "keep A 1", "keep 1 1 1/1", "keep a 0 -0",
                    "keep a 9999999 01", "keep a 0 1 "], BADTEXT, before=())
        full = [f"keep n{place} 1 1" for place in range(8)]
        self.check(["keep nine 1 x", "keep nine 0 1/1", "keep 9 1", "keep nine 0"], BADTEXT, before=full)

    def test_errors_of_gates_come_before_those_of_the_book(self):
        full = [f"keep n{place} 1 1" for place in range(8)]
        for before in ((), full):
            self.check(["keep A 0 1", "keep 1 -1 1", "keep waytoolong 1 1000001", "keep - 1000001 1", "keep a 0/5 1",
                        "keep a -1/2 1", "keep a 1/1000001 1"], ["refused badcount"], before)
            self.check(["keep A 1 1", "keep 1 2/3 0", "keep waytoolong 1 1", "keep a-b 1 1", "keep 1/2 1 1",
                        "keep aB 2000000/2 1"], ["refused noname"], before)
        self.check(["keep nine 1 1", "keep a 1/2 3"], ["refused badcount"], full)

    def test_errors_of_the_book(self):
        self.check(["drop c", "drop A", "drop 1", "drop drop", "gate c", "gate A", "gate gate", "gate 1/2", "gate ab"],
                   ["refused noentry"])
        self.check(["plan a", "plan b", "plan a a", "plan a b a", "plan a b c", "plan A b", "plan a,b", "plan ab"],
                   ["refused noorder"])

    def test_empty_desk(self):
        self.check(["best", "amount", "carry 1", "ends 1/2", "improve", "count"], EMPTY, before=())
        self.check(["names", "planned"], [], before=())
        self.check(["drop a", "gate a"], ["refused noentry"], before=())
        self.check(["plan a", "plan plan", "plan a b"], ["refused noorder"], before=())
        self.check(["back"], ["refused noback"], before=())

    def test_emptied_desk(self):
        desk = Desk()
        desk.tell("keep a 1 1")
        desk.tell("drop a")
        for row in ("best", "amount", "carry 1", "ends 1/2", "improve", "count"):
            self.assertEqual(desk.tell(row), EMPTY)
        self.assertEqual([desk.tell("back"), desk.tell("count"), desk.tell("back"), desk.tell("count")],
                         [DONE, ["1"], DONE, EMPTY])

    def test_no_row_raises_an_error(self):
        for count in range(4):
            for parts in product(("keep", "plan", "carry", "a", "1", "0", "", "best"), repeat=count):
                row = " ".join(parts)
                desk = Desk()
                found = desk.tell(row)
                self.assertEqual(found, wanted(Book(), row))
        for sign in map(chr, range(32, 127)):
            for row in (sign, f"keep {sign} 1 1", f"gate {sign}", f"carry {sign}", f"keep a{sign} 1{sign} 1"):
                self.assertEqual(Desk().tell(row), wanted(Book(), row))


class OwnStateTest(unittest.TestCase):
    def test_two_desks(self):
        one, other = Desk(), Desk()
        one.tell("keep a 1/2 3")
        other.tell("keep a 1 1")
        other.tell("keep b 2 1")
        self.assertEqual([one.tell("gate a"), other.tell("gate a")], [["1/2 3"], ["1 1"]])
        self.assertEqual([one.tell("names"), other.tell("names")], [["a"], ["a", "b"]])
        one.tell("back")
        self.assertEqual([one.tell("back"), other.tell("back")], [["refused noback"], DONE])
        self.assertEqual(Desk().tell("names"), [])

    def test_answers_belong_to_the_caller(self):
        desk = Desk()
        for row in ("keep b 1/2 3", "keep a 2 1"):
            desk.tell(row).append("x")
        for row in ("names", "best", "planned", "gate a", "amount", "carry 1", "ends 1", "improve", "count", "x"):
            before = desk.tell(row) if row != "improve" else ["best"]
            desk.tell(row).append("x")
            desk.tell(row).clear()
            self.assertEqual(desk.tell(row), before)

    def test_a_desk_has_a_book(self):
        self.assertTrue(any(isinstance(thing, Book) for thing in vars(Desk()).values()))


if __name__ == "__main__":
    unittest.main()
