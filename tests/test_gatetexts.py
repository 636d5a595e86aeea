"""[18]: texts of fractions and gates, and what is malformed in them."""

import random
import re
import unittest
from fractions import Fraction
from itertools import product

from bestround.gates import Gate, Line
from bestround.gatetexts import fraction_text, gate_text, read_fraction, read_gate
from helpers import bad_count, drawn_gates, great_gates, pair, raised

LIMIT = 10 ** 6
FRACTION = re.compile(r"(0|-?[1-9][0-9]{0,6})(/([2-9]|[1-9][0-9]{1,6}))?")
MALFORMED = (
    "", " ", "-", "/", "-/", "+", "+1", "--1", "1-", "1-2", "- 1", "-0", "-0/5", "-00", "00", "000", "01", "-01",
    "0001", "3/1", "3/0", "0/0", "0/1", "3/01", "3/02", "3/00", "0/05", "1/-2", "-1/-2", "1/+2", "1/", "/2", "-/2",
    "1//2", "1/2/3", "1/2/", "/1/2", " 1", "1 ", " 1/2", "1/2 ", "1 /2", "1/ 2", "1 / 2", "1 2", "12345678",
    "-12345678", "00000001", "1/12345678", "12345678/2", "1234567/12345678", "1.5", "1e3", "1_0", "0x1", "a", "1a",
    "a/2", "1/a", "half", "1,2", "(1, 2)", "1:2", "1\\2", "~", "1/2~",
)


def bad_text(place):
    return ("BadText", {"place": place})


class FractionTextTest(unittest.TestCase):
    def test_texts(self):
        for fraction, wanted in (((-3, 6), "-1/2"), ((0, 1), "0"), ((0, 9), "0"), ((5, 1), "5"), ((-5, 1), "-5"),
                                 ((10, 5), "2"), ((-10, 5), "-2"), ((7, 7), "1"), ((3, 2), "3/2"), ((6, 4), "3/2"),
                                 ((1, 10), "1/10"), ((-1, LIMIT), "-1/1000000"), ((LIMIT, 3), "1000000/3")):
            for given in (list(fraction), tuple(fraction)):
                self.assertEqual(fraction_text(given), wanted)
                self.assertEqual(fraction_text(fraction=given), wanted)

    def test_any_size(self):
        # Python's own str refuses numbers of more than 4300 digits; these texts are put together without it.
        for count in (63, 64, 65, 127, 128, 129, 1000, 4299, 4300, 4301, 5000, 9000):
            ten = 10 ** count
            for sign, minus in ((1, ""), (-1, "-")):
                self.assertEqual(fraction_text((sign * ten, 1)), minus + "1" + "0" * count)
                self.assertEqual(fraction_text((sign * (ten - 1), 1)), minus + "9" * count)
                self.assertEqual(fraction_text((sign, ten)), minus + "1/1" + "0" * count)
                self.assertEqual(fraction_text((sign * (ten + 7), ten)),
                                 minus + "1" + "0" * (count - 1) + "7/1" + "0" * count)
            self.assertEqual(fraction_text((ten * 6, ten * 4)), "3/2")
            self.assertEqual(fraction_text((0, ten)), "0")

    def test_digits_at_every_place(self):
        draw = random.Random(180)
        for count in (1, 7, 8, 30, 64, 100, 128, 129, 300):
            for _ in range(20):
                text = str(draw.randint(1, 9)) + "".join(str(draw.choice([0, 0, draw.randint(0, 9)]))
                                                         for _ in range(count - 1))
                self.assertEqual(fraction_text((int(text), 1)), text)
                self.assertEqual(fraction_text((-int(text), 1)), "-" + text)

    def test_the_argument_is_not_changed(self):
        fraction = [-6, 4]
        fraction_text(fraction)
        self.assertEqual(fraction, [-6, 4])


class ReadFractionTest(unittest.TestCase):
    def check(self, text):
        found = FRACTION.fullmatch(text)
        if found is None:
            self.assertEqual(raised(read_fraction, text), bad_text(0), text)
        else:
            fraction = read_fraction(text)
            self.assertEqual(fraction, pair(Fraction(int(found[1]), int(found[3] or 1))), text)
            self.assertIsInstance(fraction, tuple)

    def test_texts(self):
        for text, wanted in (("6/4", (3, 2)), ("0", (0, 1)), ("0/5", (0, 1)), ("-1/2", (-1, 2)), ("-4/6", (-2, 3)),
                             ("4/2", (2, 1)), ("9999999", (9999999, 1)), ("-9999999/2", (-9999999, 2)),
                             ("1/9999999", (1, 9999999)), ("9999999/9999999", (1, 1)), ("1000000", (LIMIT, 1)),
                             ("10/20", (1, 2)), ("0/9999999", (0, 1)), ("1/2", (1, 2)), ("1/10", (1, 10))):
            self.assertEqual(read_fraction(text), wanted)
            self.assertEqual(read_fraction(text=text), wanted)

    def test_malformed_texts(self):
        for text in MALFORMED:
            self.assertIsNone(FRACTION.fullmatch(text))
            self.check(text)

    def test_all_short_texts(self):
        for count in range(6):
            for signs in product("-/012 ", repeat=count):
                self.check("".join(signs))

    def test_every_character(self):
        for sign in map(chr, range(32, 127)):
            for text in (sign, sign + "1", "1" + sign, "1/" + sign, "1/1" + sign, "1" + sign + "2", "1" + sign + "/2"):
                self.check(text)

    def test_numbers_of_digits(self):
        for count in range(1, 12):
            for text in ("7" * count, "-" + "7" * count, "5/" + "7" * count, "7" * count + "/5", "1" + "0" * count,
                         "0" * count, "0" * count + "1", "2/" + "0" * count + "3"):
                self.check(text)

    def test_back_and_forth(self):
        draw = random.Random(181)
        for gate in drawn_gates(draw, 100) + great_gates(draw, 200):
            for fraction in (gate.factor, gate.amount, (-gate.factor[0], gate.factor[1])):
                self.assertEqual(read_fraction(fraction_text(fraction)), fraction)
        for top in range(-9, 10):
            for bottom in range(2, 10):
                text = fraction_text(read_fraction(f"{top}/{bottom}"))
                self.assertEqual(text, str(Fraction(top, bottom)))
                self.assertEqual(fraction_text(read_fraction(text)), text)


class GateTextTest(unittest.TestCase):
    def test_texts(self):
        for gate, wanted in ((Gate((1, 2), (3, 1)), "1/2 3"), (Gate((2, 1), (-1, 1)), "2 -1"),
                             (Gate((1, 1), (0, 1)), "1 0"), (Gate((6, 4), (-10, 4)), "3/2 -5/2"),
                             (Gate((1, LIMIT), (-LIMIT, 999999)), "1/1000000 -1000000/999999")):
            self.assertEqual(gate_text(gate), wanted)
            self.assertEqual(gate_text(gate=gate), wanted)
            self.assertEqual(read_gate(wanted), gate)

    def test_back_and_forth(self):
        draw = random.Random(182)
        for gate in drawn_gates(draw, 100) + great_gates(draw, 200):
            self.assertEqual(read_gate(gate_text(gate)), gate)
        self.assertEqual(gate_text(read_gate("2/4 3")), "1/2 3")


class ReadGateTest(unittest.TestCase):
    def check(self, text, wanted):
        self.assertEqual(raised(read_gate, text), wanted, text)

    def test_gates(self):
        for text, wanted in (("2/4 3", ((1, 2), (3, 1))), ("1 0", ((1, 1), (0, 1))), ("1 0/5", ((1, 1), (0, 1))),
                             ("1000000 -1000000", ((LIMIT, 1), (-LIMIT, 1)))):
            for gate in (read_gate(text), read_gate(text=text)):
                self.assertIsInstance(gate, Gate)
                self.assertNotIsInstance(gate, Line)
                self.assertEqual((gate.factor, gate.amount), wanted)

    def test_malformed_parts(self):
        for part in MALFORMED:
            if " " not in part:
                self.check(part, bad_text(0))
                self.check(part + " 1", bad_text(0))
                self.check("1 " + part, bad_text(1))
                self.check(part + " " + part, bad_text(0))
                self.check(part + " 1 1", bad_text(0))
                self.check("1 " + part + " 1", bad_text(1))
                self.check("1 1 " + part, bad_text(2))
                self.check("1 1 1 " + part, bad_text(2))

    def test_numbers_of_parts(self):
        for text, place in (("", 0), ("1", 1), ("1/2", 1), ("0", 1), ("x", 0), ("1 1 1", 2), ("1 1 1 1", 2),
                            ("1 1 1 1 1 1", 2), ("x x x", 0), ("1 x x", 1), ("1 1 x", 2), ("1 1 1 x", 2)):
            self.check(text, bad_text(place))

    def test_blanks(self):
        for text, place in ((" ", 0), ("  ", 0), (" 1 1", 0), (" 1", 0), ("1 ", 1), ("1  1", 1), ("1 1 ", 2),
                            ("1  ", 1), ("1 1  ", 2), (" 1 1 ", 0), ("1/2  3", 1), ("1\t1", 0)):
            self.check(text, bad_text(place))

    def test_errors_of_gates(self):
        for text, count in (("0 1", 0), ("-1 1", -1), ("0/5 1", 0), ("-2/4 1", -1), ("-1000000 0", -LIMIT)):
            self.check(text, bad_count("factor", count))
        for text, count in (("1000001 1", LIMIT + 1), ("1/1000001 1", LIMIT + 1), ("1 -1000001", -LIMIT - 1),
                            ("0 1000001", LIMIT + 1), ("1 3/9999999", 3333333), ("-9999999 1", -9999999),
                            ("2000001/2 9999999", 2000001), ("2000002/2 0", LIMIT + 1)):
            self.check(text, bad_count("number", count))
        for text in ("2000000/2 1", "1 -2000000/4000000", "1 0/9999999"):
            self.check(text, None)

    def test_malformed_texts_come_before_errors_of_gates(self):
        for text, place in (("0", 1), ("0 x", 1), ("9999999 -0", 1), ("0 1 1", 2), ("9999999 9999999 9999999", 2)):
            self.check(text, bad_text(place))

    def test_against_gates_of_the_fractions(self):
        draw = random.Random(183)
        bounds = [0, 1, 2, 5, LIMIT - 1, LIMIT, LIMIT + 1, 2 * LIMIT, 9999999]
        for _ in range(500):
            parts = []
            for _ in range(2):
                top, bottom = draw.choice(bounds), draw.choice([1, *bounds[2:]])
                sign = draw.choice(["", "-"]) if top else ""
                parts.append(f"{sign}{top}" if bottom == 1 else f"{sign}{top}/{bottom}")
            fractions = [pair(Fraction(part)) for part in parts]
            self.check(" ".join(parts), raised(Gate, *fractions))


if __name__ == "__main__":
    unittest.main()
