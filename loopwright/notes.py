"""Plaits written as texts, and read from them."""

from loopwright.errors import BadNote
from loopwright.plaits import is_plait, looked


def shown(plait):
    """Write a plait."""
    looked(plait)
    strands = plait[0]
    return f"{strands}:" + "".join([f" {letter}" for letter in plait[1]])


def number_in(figures):
    """Read a whole number that is written without a needless nought or sign."""
    try:
        number = int(figures)
    except ValueError:
        raise BadNote("no whole number stands where one should") from None
    # Python's int also reads noughts, signs, blanks and strokes that aren't needed.
    if str(number) != figures:
        raise BadNote("a number is written with more than it needs")
    return number


def read(text):
    """Read the plait that a text writes."""
    parts = text.split(" ")
    if not parts[0].endswith(":"):
        raise BadNote("no strands and colon at the beginning")
    strands = number_in(parts[0][:-1])
    plait = (strands, tuple([number_in(part) for part in parts[1:]]))
    if not is_plait(plait):
        raise BadNote("what is written is no plait")
    return plait
