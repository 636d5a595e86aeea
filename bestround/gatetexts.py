"""Texts of fractions and gates."""

from bestround.checks import DIGITS, only_of
from bestround.errors import BadText
from bestround.gates import Gate
from bestround.ratios import lowest

MOST_DIGITS = 7
PIECE_DIGITS = 64
PIECE = 10 ** 64


def number_text(number):
    """Write a number in pieces, because Python refuses to write one of thousands of digits at once."""
    pieces, left = [], abs(number)
    while left >= PIECE:
        left, piece = divmod(left, PIECE)
        pieces.append(str(piece).zfill(PIECE_DIGITS))
    pieces.append(str(left))
    if number < 0:
        pieces.append("-")
    return "".join(pieces[::-1])


def fraction_text(fraction):
    """Return the text of the fraction in lowest terms."""
    top, bottom = lowest(fraction)
    if bottom == 1:
        return number_text(top)
    return number_text(top) + "/" + number_text(bottom)


def is_number_text(text):
    if not 1 <= len(text) <= MOST_DIGITS or not only_of(text, DIGITS):
        return False
    return text == "0" or text[0] != "0"


def fraction_in(text):
    """Return the fraction that the text writes, None if the text is malformed."""
    top, stroke, bottom = text.partition("/")
    if not is_number_text(top.removeprefix("-")) or top == "-0":
        return None
    if stroke == "":
        return (int(top), 1)
    if not is_number_text(bottom) or int(bottom) < 2:
        return None
    return lowest((int(top), int(bottom)))


def read_fraction(text):
    fraction = fraction_in(text)
    if fraction is None:
        raise BadText(0)
    return fraction


def gate_text(gate):
    """Return the texts of the factor and of the amount, separated by a blank."""
    return fraction_text(gate.factor) + " " + fraction_text(gate.amount)


def read_gate(text):
    parts = text.split(" ")
    fractions = [fraction_in(part) for part in parts[:2]]
    for place, fraction in enumerate(fractions):
        if fraction is None:
            raise BadText(place)
    if len(parts) != 2:
        # The place of what is missing, or of the first part that is too much.
        raise BadText(min(len(parts), 2))
    return Gate(fractions[0], fractions[1])
