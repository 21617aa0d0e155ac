"""Points 1 and 80 to 83, and the interface's section loopwright/powers.py."""

import unittest
from fractions import Fraction
from itertools import product

from helper import (
    BY_GREAT_PRIMES, FAR_NUMBERS, NO_PLAITS, SAME, all_plaits, arguments_are, closed_plaits, letters_of, long_plaits, plain,
    plain_moves, refused, small_plaits, walk_from, walk_moves,
)
from loopwright import powers
from loopwright.colours import free_colours
from loopwright.errors import NoPlait
from loopwright.letters import images
from loopwright.loops import pieces
from loopwright.plaits import behind, flipped, mirrored, turned
from loopwright.powers import closed_sum, closed_weight, table_of
from loopwright.states import settled

NOUGHT = ()
ONE = ((0, 1),)
PRIMES = [number for number in range(3, 98) if all(number % other for other in range(2, number))]

# Closed plaits, the counts of their sums from the power nought on, and their weights.
SUMS = [
    ((1, ()), [1], 1),
    ((2, ()), [], 0),
    ((6, ()), [], 0),
    ((2, (1,)), [1], 1),
    ((2, (-1,)), [1], 1),
    ((6, (1, -2, 3, -4, 5)), [1], 1),
    ((2, (1, 1)), [1, -1], 2),
    ((2, (-1, -1)), [1, -1], 2),
    ((2, (1, -1)), [], 0),
    ((2, (1, 1, 1)), [1, -1, 1], 3),
    ((2, (-1,) * 3), [1, -1, 1], 3),
    ((2, (1,) * 16), [1, -1] * 8, 16),
    ((2, (1,) * 15), [1, -1] * 7 + [1], 15),
    ((3, (1, -2, 1, -2)), [1, -3, 1], 5),
    ((3, (1, -2) * 3), [1, -4, 6, -4, 1], 16),
    ((3, (1, 2) * 3), [1, -1, 0, -1, 1], 4),
    ((3, (1, 1, 2, 2)), [1, -2, 1], 4),
    ((3, (1, 1, 1, 2, -1, 2)), [2, -3, 2], 7),
    ((3, (1, 1, 1, 2, 2, 2)), [1, -2, 3, -2, 1], 9),
    ((3, (1, 1, 1, -2, -2, -2)), [1, -2, 3, -2, 1], 9),
    ((3, (1, 2) * 4), [1, -1, 0, 1, 0, -1, 1], 3),
    ((3, (1, 2) * 5), [1, -1, 0, 1, -1, 1, 0, -1, 1], 1),
    ((3, (1, 1, 1)), [], 0),
    ((4, (1, 3)), [], 0),
    ((4, (1, 2, 2, 1)), [], 0),
    ((6, (5,) * 16), [], 0),
    ((6, (1, 1, 2, 2, 4, 4, 5, 5)), [], 0),
]


def in_counts(whole):
    return [dict(whole).get(power, 0) for power in range(whole[-1][0] + 1)] if whole else []


def worth_at(whole, t):
    return sum((count * Fraction(t) ** power for power, count in whole), Fraction(0))


def letter_at(strands, letter, t):
    """The table of a letter by what point 81 says, with a number in the place of t."""
    rows = [[Fraction(row == column) for column in range(strands)] for row in range(strands)]
    i = abs(letter)
    t = Fraction(t)
    block = [[1 - t, t], [1, 0]] if letter > 0 else [[0, 1], [1 / t, 1 - 1 / t]]
    for row, column in product(range(2), repeat=2):
        rows[i - 1 + row][i - 1 + column] = Fraction(block[row][column])
    return rows


def table_at(plait, t):
    strands, word = plait
    rows = [[Fraction(row == column) for column in range(strands)] for row in range(strands)]
    for letter in word:
        table = letter_at(strands, letter, t)
        rows = [[sum(row[mid] * table[mid][column] for mid in range(strands)) for column in range(strands)] for row in rows]
    return rows


def determinant_of(rows):
    """The determinant of numbers, by clearing column after column."""
    rows = [list(row) for row in rows]
    whole = Fraction(1)
    for at in range(len(rows)):
        lead = next((row for row in range(at, len(rows)) if rows[row][at]), None)
        if lead is None:
            return Fraction(0)
        if lead != at:
            rows[at], rows[lead] = rows[lead], rows[at]
            whole = -whole
        whole *= rows[at][at]
        for row in range(at + 1, len(rows)):
            share = rows[row][at] / rows[at][at]
            rows[row] = [here - share * there for here, there in zip(rows[row], rows[at])]
    return whole


def closed_at(plait, t):
    table = table_at(plait, t)
    places = range(1, plait[0])
    return determinant_of([[Fraction(row == column) - table[row][column] for column in places] for row in places])


def shares_of(free, strands):
    """By letters, the sum of the powers that stand ahead of each letter in a free word, a contrary's less by itself."""
    found = [{} for _ in range(strands)]
    height = 0
    for letter in free:
        power = height if letter > 0 else height - 1
        counts = found[abs(letter) - 1]
        counts[power] = counts.get(power, 0) + (1 if letter > 0 else -1)
        height += 1 if letter > 0 else -1
    return [tuple(sorted((power, count) for power, count in counts.items() if count)) for counts in found]


def never_crossing(plait):
    return len({abs(letter) for letter in plait[1]}) < plait[0] - 1


class InterfaceTest(unittest.TestCase):
    def test_names_and_arguments(self):
        arguments_are(self, powers, {"table_of": ["plait"], "closed_sum": ["plait"], "closed_weight": ["plait"]})


class TableTest(unittest.TestCase):
    """Points 80 and 81."""

    def test_without_letters(self):
        self.assertEqual(table_of((1, ())), [[ONE]])
        for strands in range(1, 7):
            wanted = [[ONE if row == column else NOUGHT for column in range(strands)] for row in range(strands)]
            self.assertEqual(table_of((strands, ())), wanted)

    def test_of_one_letter(self):
        self.assertEqual(table_of((2, (1,))), [[((0, 1), (1, -1)), ((1, 1),)], [ONE, NOUGHT]])
        self.assertEqual(table_of((2, (-1,))), [[NOUGHT, ONE], [((-1, 1),), ((-1, -1), (0, 1))]])
        self.assertEqual(table_of((3, (2,))), [
            [ONE, NOUGHT, NOUGHT], [NOUGHT, ((0, 1), (1, -1)), ((1, 1),)], [NOUGHT, ONE, NOUGHT]])
        for strands in range(2, 7):
            for letter in letters_of(strands):
                table = table_of((strands, (letter,)))
                for t in (2, 3):
                    at = [[worth_at(whole, t) for whole in row] for row in table]
                    self.assertEqual(at, letter_at(strands, letter, t))

    def test_from_the_first_letter_to_the_last(self):
        self.assertEqual(table_of((3, (1, 2))), [
            [((0, 1), (1, -1)), ((1, 1), (2, -1)), ((2, 1),)], [ONE, NOUGHT, NOUGHT], [NOUGHT, ONE, NOUGHT]])
        self.assertEqual(table_of((3, (2, 1))), [
            [((0, 1), (1, -1)), ((1, 1),), NOUGHT], [((0, 1), (1, -1)), NOUGHT, ((1, 1),)], [ONE, NOUGHT, NOUGHT]])

    def test_with_numbers_in_the_place_of_t(self):
        for plait in all_plaits()[::3]:
            table = table_of(plait)
            for t in (2, 3, -5):
                self.assertEqual([[worth_at(whole, t) for whole in row] for row in table], table_at(plait, t))

    def test_by_what_plaits_make_of_letters(self):
        for strands, word in small_plaits() + [(strands, word[:8]) for strands, word in long_plaits()]:
            wanted = [shares_of(free, strands) for free in images((strands, word))]
            self.assertEqual(table_of((strands, word)), wanted)

    def test_what_is_told_rises_and_has_no_noughts(self):
        for plait in all_plaits():
            table = table_of(plait)
            self.assertEqual([len(row) for row in table], [plait[0]] * plait[0])
            for whole in [closed_sum(plait)] + sum(table, []):
                plain(self, whole)
                self.assertEqual(list(whole), sorted(whole))
                self.assertEqual(len({power for power, _ in whole}), len(whole))
                self.assertTrue(all(count != 0 for _, count in whole))

    def test_plaits_that_are_the_same(self):
        for one, other in SAME:
            self.assertEqual(table_of(one), table_of(other))
        for plait in small_plaits(2) + [(strands, word[:8]) for strands, word in long_plaits()]:
            self.assertEqual(table_of(behind(plait, turned(plait))), table_of((plait[0], ())))
        for strands, word in long_plaits()[::3]:
            table = table_of((strands, word))
            for _, led in walk_from(strands, word, 17 * strands + len(word), 60, 16)[::6]:
                self.assertEqual(table_of((strands, led)), table)

    def test_plaits_that_are_not_the_same(self):
        self.assertNotEqual(table_of((3, (1, 2))), table_of((3, (2, 1))))
        self.assertNotEqual(table_of((2, (1,))), table_of((2, (-1,))))
        self.assertNotEqual(table_of((6, (5, 5))), table_of((6, ())))


class ClosedSumTest(unittest.TestCase):
    """Points 82 and 83: sums."""

    def test_ordinary_plaits(self):
        for plait, counts, _ in SUMS:
            self.assertEqual(closed_sum(plait), tuple((power, many) for power, many in enumerate(counts) if many))

    def test_nought_and_one(self):
        self.assertEqual(closed_sum((1, ())), ((0, 1),))
        self.assertEqual(closed_sum((2, ())), ())
        self.assertEqual(closed_sum((2, (1, -1))), ())

    def test_the_determinant_with_numbers_in_the_place_of_t(self):
        for plait in small_plaits(3) + long_plaits() + closed_plaits():
            whole = closed_sum(plait)
            for t in (2, -3, 7):
                worth = closed_at(plait, t)
                if not whole:
                    self.assertEqual(worth, 0)
                else:
                    # But for its sign it is a power of t; 7 and 2 and 3 have none but their own.
                    share = abs(worth / worth_at(whole, t))
                    while share > 1:
                        share /= abs(t)
                    while share < 1:
                        share *= abs(t)
                    self.assertEqual(share, 1)

    def test_the_least_power_is_nought_with_a_count_above_nought(self):
        for plait in all_plaits() + closed_plaits():
            whole = closed_sum(plait)
            if whole:
                self.assertEqual(whole[0][0], 0)
                self.assertGreater(whole[0][1], 0)

    def test_from_last_to_first(self):
        for plait in all_plaits() + closed_plaits():
            counts = in_counts(closed_sum(plait))
            self.assertIn(counts[::-1], [counts, [-many for many in counts]])

    def test_nought_where_neighbours_never_cross_else_not_greater(self):
        for plait in all_plaits() + closed_plaits():
            whole = closed_sum(plait)
            if never_crossing(plait):
                self.assertEqual(whole, NOUGHT)
            elif whole:
                self.assertLessEqual(whole[-1][0], len(plait[1]) - plait[0] + 1)

    def test_at_one(self):
        for plait in all_plaits() + closed_plaits():
            worth = sum(count for _, count in closed_sum(plait))
            self.assertIn(worth, (1, -1) if len(pieces(plait)) == 1 else (0,))

    def test_what_is_no_plait(self):
        for wrong in NO_PLAITS + [(3, (1, far)) for far in FAR_NUMBERS] + [(far, ()) for far in FAR_NUMBERS]:
            for call in (table_of, closed_sum, closed_weight):
                refused(self, NoPlait, call, wrong)


class ClosedWeightTest(unittest.TestCase):
    """Points 82 and 83: weights."""

    def test_ordinary_plaits(self):
        for plait, _, weight in SUMS:
            self.assertEqual(closed_weight(plait), weight)
            self.assertIs(type(closed_weight(plait)), int)

    def test_the_sum_at_less_one(self):
        for plait in all_plaits() + closed_plaits():
            self.assertEqual(closed_weight(plait), abs(worth_at(closed_sum(plait), -1)))
            self.assertEqual(closed_weight(plait), abs(closed_at(plait, -1)))

    def test_odd_just_where_there_is_one_piece(self):
        for plait in all_plaits() + closed_plaits():
            self.assertEqual(closed_weight(plait) % 2 == 1, len(pieces(plait)) == 1)

    def test_odd_primes_by_free_colours(self):
        for plait in small_plaits(3)[::2] + long_plaits() + closed_plaits() + [pair[1] for pair in BY_GREAT_PRIMES]:
            weight = closed_weight(plait)
            for prime in PRIMES:
                self.assertEqual(weight % prime == 0, free_colours(prime, plait) > 1)

    def test_great_primes(self):
        for prime, plait in BY_GREAT_PRIMES:
            self.assertEqual(closed_weight(plait) % prime, 0)
            self.assertNotEqual(closed_weight(plait), 0)

    def test_by_the_settled_sum(self):
        # Where the power 4 stands for -1, what is left of the settled sum is the weight.
        for plait in small_plaits(3)[::3] + long_plaits() + closed_plaits():
            worth = sum(count * (-1) ** (power // 4) for power, count in settled(plait))
            self.assertEqual(closed_weight(plait), abs(worth))


class KeptTest(unittest.TestCase):
    """Point 83: what moves and mirrors keep."""

    def test_each_move(self):
        for plait in small_plaits(2) + closed_plaits():
            whole = closed_sum(plait)
            for _, led in plain_moves(plait)[:6] + plain_moves(plait)[6::6]:
                self.assertEqual(closed_sum(led), whole)
                self.assertEqual(closed_weight(led), closed_weight(plait))

    def test_rows_of_moves(self):
        for plait in closed_plaits():
            whole = closed_sum(plait)
            weight = closed_weight(plait)
            for _, led in walk_moves(plait, 19 * plait[0] + len(plait[1]), 100)[::5]:
                self.assertEqual(closed_sum(led), whole)
                self.assertEqual(closed_weight(led), weight)

    def test_mirrored_turned_and_flipped(self):
        for plait in small_plaits() + closed_plaits():
            for made in (mirrored(plait), turned(plait), flipped(plait), (plait[0], plait[1][::-1])):
                self.assertEqual(closed_sum(made), closed_sum(plait))
                self.assertEqual(closed_weight(made), closed_weight(plait))


class HandedInTest(unittest.TestCase):
    """Point 1."""

    def test_what_is_told_is_the_askers_own(self):
        for plait in closed_plaits():
            first = table_of(plait)
            wanted = [list(row) for row in first]
            self.assertEqual(len({id(row) for row in first}), len(first))
            self.assertIs(type(first), list)
            for row in first:
                self.assertIs(type(row), list)
                row.reverse()
                row[0] = ((9, 9),)
            first.append([])
            self.assertEqual(table_of(plait), wanted)

    def test_nothing_is_left_by_what_was_asked_before(self):
        first = [(table_of(plait), closed_sum(plait), closed_weight(plait)) for plait in closed_plaits()]
        refused(self, NoPlait, closed_sum, (2, (2,)))
        self.assertEqual([(table_of(plait), closed_sum(plait), closed_weight(plait)) for plait in closed_plaits()], first)


if __name__ == "__main__":
    unittest.main()
