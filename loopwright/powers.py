"""Powers: the table that a plait makes of sums of powers, and the sum and the weight of the closed plait."""

from loopwright.plaits import looked
from loopwright.sums import LESS_ONE, NOUGHT, ONE, added, multiplied

# What stands in the letters' tables: the power 1, the power -1, and 1 less each of them.
UP = ((1, 1),)
DOWN = ((-1, 1),)
LESS_UP = ((0, 1), (1, -1))
LESS_DOWN = ((-1, -1), (0, 1))


def one_where_same(row, column):
    """Tell what stands at a row and a column where there are no letters."""
    return ONE if row == column else NOUGHT


def with_letter(row, letter):
    """Multiply a row by a letter's table."""
    at = abs(letter) - 1
    left = row[at]
    right = row[at + 1]
    if letter > 0:
        pair = [added(multiplied(left, LESS_UP), right), multiplied(left, UP)]
    else:
        pair = [multiplied(right, DOWN), added(left, multiplied(right, LESS_DOWN))]
    return row[:at] + pair + row[at + 2:]


def table_of(plait):
    """Tell the rows of a plait's table."""
    looked(plait)
    places = list(range(plait[0]))
    rows = [[one_where_same(row, column) for column in places] for row in places]
    for letter in plait[1]:
        rows = [with_letter(row, letter) for row in rows]
    return rows


def determinant(rows):
    """Tell the determinant of as many rows as columns; without any, 1."""
    if not rows:
        return ONE
    whole = NOUGHT
    sign = ONE
    for column, here in enumerate(rows[0]):
        # Noughts are many where there are few letters, and nothing comes of what is behind them.
        if here:
            rest = determinant([row[:column] + row[column + 1:] for row in rows[1:]])
            whole = added(whole, multiplied(multiplied(here, rest), sign))
        sign = multiplied(sign, LESS_ONE)
    return whole


def from_nought(whole):
    """Tell a sum times a power, and perhaps -1, so that its least power is nought and its count there above nought."""
    if not whole:
        return NOUGHT
    least = whole[0]
    sign = 1 if least[1] > 0 else -1
    return multiplied(whole, ((-least[0], sign),))


def closed_sum(plait):
    """Tell the sum of a closed plait."""
    table = table_of(plait)
    places = list(range(1, plait[0]))
    rows = []
    for row in places:
        rows.append([added(one_where_same(row, column), multiplied(table[row][column], LESS_ONE)) for column in places])
    return from_nought(determinant(rows))


def closed_weight(plait):
    """Tell the worth of a closed plait's sum at -1, without a sign."""
    return abs(sum([count if power % 2 == 0 else -count for power, count in closed_sum(plait)]))
