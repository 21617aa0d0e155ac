"""Points 1 and 70 to 73, and the interface's section loopwright/states.py."""

import unittest
from collections import Counter
from itertools import product

from helper import (
    FAR_NUMBERS, NO_PLAITS, SAME, arguments_are, closed_plaits, letters_of, long_plaits, plain, plain_moves, refused,
    small_plaits, walk_from, walk_moves,
)
from loopwright import states
from loopwright.errors import NoPlait, NoRoom
from loopwright.loops import pieces, turns
from loopwright.plaits import flipped, mirrored, turned
from loopwright.states import by_nests, by_states, settled

LOOP = {2: -1, -2: -1}


def times(one, other):
    """Two sums, as dicts from powers to counts, multiplied."""
    found = Counter()
    for (power, count), (more, many) in product(one.items(), other.items()):
        found[power + more] += count * many
    return found


def plus(*sums):
    found = Counter()
    for one in sums:
        for power, count in one.items():
            found[power] += count
    return found


def told(counts):
    return tuple(sorted((power, count) for power, count in counts.items() if count))


def to_power(counts, many):
    found = {0: 1}
    for _ in range(many):
        found = times(found, counts)
    return found


def loops_of(plait, hooked):
    """How many loops a state has: parts of a net of all places between two letters, each joined to two others."""
    strands, word = plait
    marks = {(row, place): (row, place) for row in range(max(len(word), 1)) for place in range(strands)}

    def join(one, other):
        gone = marks[other]
        for point in marks:
            if marks[point] == gone:
                marks[point] = marks[one]

    for row, letter in enumerate(word):
        below = (row + 1) % len(word)
        i = abs(letter)
        for place in range(strands):
            if not hooked[row] or place not in (i - 1, i):
                join((row, place), (below, place))
        if hooked[row]:
            join((row, i - 1), (row, i))
            join((below, i - 1), (below, i))
    return len(set(marks.values()))


def plain_sum(plait):
    """The sum over states, straight by what point 71 says."""
    whole = {}
    for hooked in product((False, True), repeat=len(plait[1])):
        power = sum(1 if (letter > 0) != hook else -1 for letter, hook in zip(plait[1], hooked))
        whole = plus(whole, times({power: 1}, to_power(LOOP, loops_of(plait, hooked) - 1)))
    return told(whole)


def by_powers(one, power, count=1):
    """A sum multiplied by a power and a count."""
    return tuple((more + power, count * many) for more, many in one)


def contrary_powers(one):
    return tuple((-power, count) for power, count in reversed(one))


class InterfaceTest(unittest.TestCase):
    def test_names_and_arguments(self):
        arguments_are(self, states, {"by_states": ["plait"], "by_nests": ["plait"], "settled": ["plait"]})


class SumTest(unittest.TestCase):
    """Points 70 and 71."""

    def check_both(self, plait, wanted):
        self.assertEqual(by_states(plait), wanted)
        self.assertEqual(by_nests(plait), wanted)

    def test_ordinary_plaits(self):
        self.check_both((2, (1,)), ((3, -1),))
        self.check_both((2, (-1,)), ((-3, -1),))
        self.check_both((2, (1, 1)), ((-4, -1), (4, -1)))
        self.check_both((2, (-1, -1)), ((-4, -1), (4, -1)))
        self.check_both((2, (1, 1, 1)), ((-7, 1), (-3, -1), (5, -1)))
        self.check_both((3, (1, -2)), ((0, 1),))
        self.check_both((3, (1, 2)), ((6, 1),))
        self.check_both((3, (1, -2, 1, -2)), ((-8, 1), (-4, -1), (0, 1), (4, -1), (8, 1)))
        self.check_both((4, (1, 3)), ((4, -1), (8, -1)))

    def test_without_letters(self):
        self.check_both((1, ()), ((0, 1),))
        self.check_both((2, ()), ((-2, -1), (2, -1)))
        self.check_both((3, ()), ((-4, 1), (0, 2), (4, 1)))
        for strands in range(1, 7):
            self.check_both((strands, ()), told(to_power(LOOP, strands - 1)))

    def test_letters_of_two_strands(self):
        for many in range(17):
            wanted = by_hand(many)
            self.assertEqual(by_nests((2, (1,) * many)), wanted)
            self.assertEqual(by_nests((2, (-1,) * many)), contrary_powers(wanted))
            if many <= 10:
                self.assertEqual(by_states((2, (1,) * many)), wanted)
                self.assertEqual(by_states((2, (-1,) * many)), contrary_powers(wanted))

    def test_state_by_state(self):
        for plait in small_plaits() + [plait for plait in closed_plaits() if len(plait[1]) <= 7]:
            self.check_both(plait, plain_sum(plait))
        for strands, word in long_plaits()[::9]:
            self.check_both((strands, word[:8]), plain_sum((strands, word[:8])))

    def test_both_tell_the_same_up_to_ten_letters(self):
        for strands, word in long_plaits()[::3]:
            for letters in (8, 9, 10):
                self.assertEqual(by_states((strands, word[:letters])), by_nests((strands, word[:letters])))
        for strands in range(2, 7):
            for letter in letters_of(strands):
                self.assertEqual(by_states((strands, (letter,) * 10)), by_nests((strands, (letter,) * 10)))
                self.assertEqual(by_states((strands, (letter, -letter) * 5)), by_nests((strands, ())))

    def test_plaits_of_which_neighbours_never_cross(self):
        for strands, word in [(3, (1, 1, 1)), (4, (1, 3, 3)), (5, (1, 1, 4, 4)), (6, (1, -2, 4, -5, 4))]:
            self.check_both((strands, word), plain_sum((strands, word)))
        for strands in range(2, 6):
            for word in [(), (1,), (1, -1, 1, 1)]:
                more = told(times(dict(by_nests((strands, word))), LOOP))
                self.check_both((strands + 1, word), more)

    def test_with_a_letter_its_contrary_or_none_in_a_place(self):
        for strands, word in long_plaits()[::2]:
            for at in (0, 6, len(word) - 1):
                up, down, none = [
                    dict(by_nests((strands, word[:at] + here + word[at + 1:])))
                    for here in ((abs(word[at]),), (-abs(word[at]),), ())
                ]
                wanted = told(times(none, {2: 1, -2: -1}))
                self.assertEqual(told(plus(times(up, {1: 1}), times(down, {-1: -1}))), wanted)

    def test_what_is_told_rises_and_has_no_noughts(self):
        for plait in small_plaits() + long_plaits():
            for whole in (by_nests(plait), settled(plait)):
                plain(self, whole)
                self.assertEqual(list(whole), sorted(whole))
                self.assertEqual(len({power for power, _ in whole}), len(whole))
                self.assertTrue(all(count != 0 for _, count in whole))
            if len(plait[1]) < 5:
                plain(self, by_states(plait))

    def test_room(self):
        for strands in range(2, 7):
            for letters in range(11, 17):
                for word in [(1,) * letters, (1 - strands,) * letters, ((1, -1) * 8)[:letters]]:
                    refused(self, NoRoom, by_states, (strands, word))
                    plain(self, by_nests((strands, word)))
            by_states((strands, (1 - strands,) * 10))

    def test_what_is_no_plait(self):
        for wrong in NO_PLAITS + [(3, (1, far)) for far in FAR_NUMBERS] + [(far, ()) for far in FAR_NUMBERS]:
            for call in (by_states, by_nests, settled):
                refused(self, NoPlait, call, wrong)
        for call in (by_states, by_nests, settled):
            refused(self, NoPlait, call, (3, (1,) * 17))
            refused(self, NoPlait, call, (3, (1,) * 12 + (3,)))


def by_hand(many):
    """The sum of so many letters 1 of two strands: the first one straight, or hooked with all others untwisted."""
    whole = LOOP
    for behind in range(many):
        whole = plus(times(whole, {1: 1}), times({-1: 1}, to_power({-3: -1}, behind)))
    return told(whole)


class KeptTest(unittest.TestCase):
    """Point 72."""

    def check_move(self, plait, move, led):
        whole = by_nests(plait)
        if move[0] == "more":
            whole = by_powers(whole, 3 * move[1], -1)
        if move[0] == "less":
            whole = by_powers(whole, -3 if plait[1][-1] > 0 else 3, -1)
        self.assertEqual(by_nests(led), whole)
        if max(len(plait[1]), len(led[1])) <= 4:
            self.assertEqual(by_states(led), whole)

    def test_each_move(self):
        for plait in small_plaits(2)[::2] + closed_plaits():
            for move, led in plain_moves(plait)[:6] + plain_moves(plait)[6::6]:
                self.check_move(plait, move, led)

    def test_rows_of_moves(self):
        for plait in closed_plaits()[::2]:
            for move, led in walk_moves(plait, 11 * plait[0] + len(plait[1]), 40):
                self.check_move(plait, move, led)
                plait = led

    def test_more(self):
        for strands in range(1, 6):
            for sign in (1, -1):
                word = tuple(sign * i for i in range(1, strands + 1))
                self.assertEqual(by_states((strands + 1, word)), ((3 * sign * strands, (-1) ** strands),))

    def test_steps(self):
        for one, other in SAME:
            self.assertEqual(by_nests(one), by_nests(other))
        for strands, word in long_plaits()[::5]:
            whole = by_nests((strands, word))
            for _, led in walk_from(strands, word, 3 * strands + len(word), 60, 16)[::6]:
                self.assertEqual(by_nests((strands, led)), whole)

    def test_steps_state_by_state(self):
        for strands, word in long_plaits()[::5]:
            whole = by_states((strands, word[:6]))
            for _, led in walk_from(strands, word[:6], 3 * strands + len(word), 40, 10)[::8]:
                self.assertEqual(by_states((strands, led)), whole)


class SettledTest(unittest.TestCase):
    """Point 73."""

    def test_ordinary_plaits(self):
        for strands in range(1, 7):
            self.assertEqual(settled((strands, ())), told(to_power(LOOP, strands - 1)))
            for sign in (1, -1):
                self.assertEqual(settled((strands, tuple(sign * i for i in range(1, strands)))), ((0, 1),))
        self.assertEqual(settled((2, (1, 1, 1))), ((-16, -1), (-12, 1), (-4, 1)))
        self.assertEqual(settled((2, (-1, -1, -1))), ((4, 1), (12, 1), (16, -1)))
        self.assertEqual(settled((2, (1, 1))), ((-10, -1), (-2, -1)))
        self.assertEqual(settled((2, (1, -1))), ((-2, -1), (2, -1)))
        self.assertEqual(settled((3, (1, -2, 1, -2))), ((-8, 1), (-4, -1), (0, 1), (4, -1), (8, 1)))

    def test_by_the_turns(self):
        for plait in small_plaits() + long_plaits():
            many = turns(plait)
            self.assertEqual(settled(plait), by_powers(by_nests(plait), -3 * many, (-1) ** abs(many)))

    def test_each_move_keeps_it(self):
        for plait in small_plaits(2)[::2] + closed_plaits():
            whole = settled(plait)
            for _, led in plain_moves(plait)[:6] + plain_moves(plait)[6::6]:
                self.assertEqual(settled(led), whole)

    def test_rows_of_moves_keep_it(self):
        for plait in closed_plaits():
            whole = settled(plait)
            for _, led in walk_moves(plait, 13 * plait[0] + len(plait[1]), 90)[::6]:
                self.assertEqual(settled(led), whole)

    def test_mirrored_turned_and_flipped(self):
        for plait in small_plaits() + closed_plaits():
            self.assertEqual(settled(mirrored(plait)), contrary_powers(settled(plait)))
            self.assertEqual(by_nests(mirrored(plait)), contrary_powers(by_nests(plait)))
            self.assertEqual(settled(turned(plait)), contrary_powers(settled(plait)))
            self.assertEqual(settled(flipped(plait)), settled(plait))
            self.assertEqual(settled((plait[0], plait[1][::-1])), settled(plait))

    def test_all_counts_together(self):
        for plait in small_plaits() + long_plaits() + closed_plaits():
            self.assertEqual(sum(count for _, count in settled(plait)), (-2) ** (len(pieces(plait)) - 1))


class HandedInTest(unittest.TestCase):
    """Point 1."""

    def test_nothing_is_left_by_what_was_asked_before(self):
        first = [(by_nests(plait), settled(plait)) for plait in closed_plaits()]
        refused(self, NoRoom, by_states, (2, (1,) * 11))
        refused(self, NoPlait, by_nests, (2, (2,)))
        self.assertEqual([(by_nests(plait), settled(plait)) for plait in closed_plaits()], first)


if __name__ == "__main__":
    unittest.main()
