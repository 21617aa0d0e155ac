"""Points 1 and 50 to 54, and the interface's section loopwright/loops.py."""

import unittest

from helper import (
    FAR_NUMBERS, NO_PLAITS, all_plaits, arguments_are, closed_plaits, long_plaits, plain, plain_moves, plain_steps,
    refused, small_plaits, walk_moves,
)
from loopwright import loops
from loopwright.errors import NoPlait, NoRoom, NoStep
from loopwright.loops import moved, moved_all, pieces, turns, windings
from loopwright.plaits import mirrored, order_of

MOVES = [("round",), ("back",), ("more", 1), ("more", -1), ("less",), ("flip",)]

# None of these is a move that can be done with any plait.
NO_MOVES = [
    (), ("",), ("Round",), ("rounds",), ("round", 1), ("back", -1), ("less", 1), ("flip", 1), ("far", 0), ("out", 0),
    ("in", 0, 1), ("three", 0), ("round", "back"), ("flip", "flip"), ("more", 1, 1), ("step", ("out", 0), 1),
    ("step", ()), ("step", ("round",)), ("step", ("flip",)), ("step", ("step", ("out", 0))),
]


def ways_of(plait):
    """At which place each strand stands ahead of each letter and behind the last one."""
    strands, word = plait
    ways = [[place] for place in range(strands)]
    for letter in word:
        both = (abs(letter) - 1, abs(letter))
        for way in ways:
            way.append(sum(both) - way[-1] if way[-1] in both else way[-1])
    return ways


def plain_pieces(plait):
    """The pieces, by putting together what any strand joins."""
    parts = [{place} for place in range(plait[0])]
    for way in ways_of(plait):
        ends = [part for part in parts if part & {way[0], way[-1]}]
        parts = [part for part in parts if part not in ends] + [set().union(*ends)]
    return sorted(sorted(part) for part in parts)


def plain_windings(plait):
    """The windings, pair by pair of pieces."""
    parts = plain_pieces(plait)
    ways = ways_of(plait)
    found = []
    for other in range(len(parts)):
        for one in range(other):
            twice = 0
            for at, letter in enumerate(plait[1]):
                both = {begin for begin in range(plait[0]) if ways[begin][at] in (abs(letter) - 1, abs(letter))}
                if both & set(parts[one]) and both & set(parts[other]):
                    twice += 1 if letter > 0 else -1
            assert twice % 2 == 0
            found.append((one, other, twice // 2))
    return sorted(found)


def new_places(plait, move):
    """By each place the one to which a move leads it; less leads the last one away."""
    strands, word = plait
    places = list(range(strands))
    if move[0] in ("round", "back"):
        i = abs(word[0] if move[0] == "round" else word[-1])
        places[i - 1:i + 1] = [i, i - 1]
    if move[0] == "flip":
        places.reverse()
    if move[0] == "less":
        places.pop()
    return places


class InterfaceTest(unittest.TestCase):
    def test_names_and_arguments(self):
        arguments_are(self, loops, {
            "pieces": ["plait"], "turns": ["plait"], "windings": ["plait"], "moved": ["plait", "move"],
            "moved_all": ["plait", "moves"],
        })


class PiecesTest(unittest.TestCase):
    """Point 50."""

    def test_ordinary_plaits(self):
        self.assertEqual(pieces((2, (1,))), [[0, 1]])
        self.assertEqual(pieces((2, (1, 1))), [[0], [1]])
        self.assertEqual(pieces((3, (1,))), [[0, 1], [2]])
        self.assertEqual(pieces((3, (2,))), [[0], [1, 2]])
        self.assertEqual(pieces((3, (1, 2, 1))), [[0, 2], [1]])
        self.assertEqual(pieces((4, (1, -2, 3))), [[0, 1, 2, 3]])
        self.assertEqual(pieces((4, (2, 1, 3, 2))), [[0, 2], [1, 3]])
        self.assertEqual(pieces((4, (1, 2, 3, 1, 2, 1))), [[0, 3], [1, 2]])
        self.assertEqual(pieces((6, (1, -3, 5))), [[0, 1], [2, 3], [4, 5]])
        self.assertEqual(pieces((6, (5, 4, 3, 2, 1, -1))), [[0], [1, 2, 3, 4, 5]])

    def test_without_letters(self):
        for strands in range(1, 7):
            self.assertEqual(pieces((strands, ())), [[place] for place in range(strands)])

    def test_as_found_by_the_ways_of_the_strands(self):
        for plait in all_plaits():
            self.assertEqual(pieces(plait), plain_pieces(plait))
            self.assertEqual(sorted(sum(pieces(plait), [])), list(range(plait[0])))

    def test_each_is_come_back_to_by_the_order(self):
        for plait in long_plaits():
            order = order_of(plait)
            for part in pieces(plait):
                at = order[part[0]]
                seen = [part[0]]
                while at != part[0]:
                    seen.append(at)
                    at = order[at]
                self.assertEqual(sorted(seen), part)

    def test_what_is_no_plait(self):
        for wrong in NO_PLAITS:
            refused(self, NoPlait, pieces, wrong)


class TurnsTest(unittest.TestCase):
    """Point 51: turns."""

    def test_sums_of_signs(self):
        self.assertEqual(turns((1, ())), 0)
        self.assertEqual(turns((6, ())), 0)
        self.assertEqual(turns((2, (1,))), 1)
        self.assertEqual(turns((6, (-5,))), -1)
        self.assertEqual(turns((4, (1, -2, 3))), 1)
        self.assertEqual(turns((4, (3, 3, -1, -2, -2))), -1)
        self.assertEqual(turns((6, (5,) * 16)), 16)
        self.assertEqual(turns((6, (-5,) * 16)), -16)
        self.assertEqual(turns((3, (2, -1) * 8)), 0)
        for plait in all_plaits():
            above = len([letter for letter in plait[1] if letter > 0])
            self.assertEqual(turns(plait), 2 * above - len(plait[1]))
            self.assertIs(type(turns(plait)), int)

    def test_what_is_no_plait(self):
        for wrong in NO_PLAITS:
            refused(self, NoPlait, turns, wrong)


class WindingsTest(unittest.TestCase):
    """Point 51: windings."""

    def test_ordinary_plaits(self):
        self.assertEqual(windings((2, (1,))), [])
        self.assertEqual(windings((2, (1, 1))), [(0, 1, 1)])
        self.assertEqual(windings((2, (-1, -1))), [(0, 1, -1)])
        self.assertEqual(windings((2, (1, -1))), [(0, 1, 0)])
        self.assertEqual(windings((2, (1,) * 16)), [(0, 1, 8)])
        self.assertEqual(windings((2, (-1,) * 16)), [(0, 1, -8)])
        self.assertEqual(windings((3, (1, 1, 2, 2))), [(0, 1, 1), (0, 2, 0), (1, 2, 1)])
        self.assertEqual(windings((3, (1, 1, -2, -2))), [(0, 1, 1), (0, 2, 0), (1, 2, -1)])
        self.assertEqual(windings((3, (-1, 2) * 3)), [(0, 1, 0), (0, 2, 0), (1, 2, 0)])
        self.assertEqual(windings((3, (1, 2) * 3)), [(0, 1, 1), (0, 2, 1), (1, 2, 1)])
        self.assertEqual(windings((3, (1, 2, 2))), [(0, 1, 1)])
        self.assertEqual(windings((4, (2, 1, 3, 2))), [(0, 1, 1)])
        self.assertEqual(windings((4, (2, 1, 3, -2))), [(0, 1, 0)])

    def test_letters_within_a_piece_tell_nothing(self):
        self.assertEqual(windings((3, (1, 1, 1, 2, 2))), [(0, 1, 1)])
        self.assertEqual(windings((3, (1, -2, -2))), [(0, 1, -1)])
        self.assertEqual(windings((3, (2, 2, 2, 1, 1))), [(0, 1, 1)])

    def test_without_letters(self):
        self.assertEqual(windings((1, ())), [])
        self.assertEqual(windings((2, ())), [(0, 1, 0)])
        for strands in range(1, 7):
            wanted = [(one, other, 0) for one in range(strands) for other in range(one + 1, strands)]
            self.assertEqual(windings((strands, ())), wanted)

    def test_as_found_by_the_ways_of_the_strands(self):
        for plait in all_plaits():
            self.assertEqual(windings(plait), plain_windings(plait))
            for one, other, winding in windings(mirrored(plait)):
                self.assertIn((one, other, -winding), windings(plait))

    def test_what_is_no_plait(self):
        for wrong in NO_PLAITS:
            refused(self, NoPlait, windings, wrong)


class MovedTest(unittest.TestCase):
    """Points 52 and 53."""

    def test_round_and_back(self):
        self.assertEqual(moved((4, (1, -2, 3)), ("round",)), (4, (-2, 3, 1)))
        self.assertEqual(moved((4, (1, -2, 3)), ("back",)), (4, (3, 1, -2)))
        self.assertEqual(moved((2, (-1,)), ("round",)), (2, (-1,)))
        self.assertEqual(moved((2, (-1,)), ("back",)), (2, (-1,)))
        self.assertEqual(moved((3, (1,) + (2,) * 15), ("round",)), (3, (2,) * 15 + (1,)))
        self.assertEqual(moved((3, (2,) * 15 + (1,)), ("back",)), (3, (1,) + (2,) * 15))
        for strands in range(1, 7):
            refused(self, NoStep, moved, (strands, ()), ("round",))
            refused(self, NoStep, moved, (strands, ()), ("back",))

    def test_more(self):
        self.assertEqual(moved((1, ()), ("more", 1)), (2, (1,)))
        self.assertEqual(moved((1, ()), ("more", -1)), (2, (-1,)))
        self.assertEqual(moved((3, (1, -2)), ("more", 1)), (4, (1, -2, 3)))
        self.assertEqual(moved((3, (1, -2)), ("more", -1)), (4, (1, -2, -3)))
        self.assertEqual(moved((5, (4,) * 15), ("more", -1)), (6, (4,) * 15 + (-5,)))

    def test_more_of_what_there_is_no_such_sign(self):
        for sign in [0, 2, -2, 3, 16] + FAR_NUMBERS:
            for plait in [(1, ()), (2, (1,)), (5, (4,) * 15)]:
                refused(self, NoStep, moved, plait, ("more", sign))

    def test_room_for_more(self):
        for word in [(), (1, 2, 3, 4), (5,) * 15, (5,) * 16]:
            for sign in (1, -1):
                refused(self, NoRoom, moved, (6, word), ("more", sign))
        for strands in range(2, 6):
            for sign in (1, -1):
                refused(self, NoRoom, moved, (strands, (1,) * 16), ("more", sign))
                self.assertEqual(
                    moved((strands, (1,) * 15), ("more", sign)), (strands + 1, (1,) * 15 + (sign * strands,)))

    def test_room_for_more_comes_ahead_of_its_sign(self):
        for sign in [0, 2, -2] + FAR_NUMBERS:
            refused(self, NoRoom, moved, (6, ()), ("more", sign))
            refused(self, NoRoom, moved, (6, (5,) * 16), ("more", sign))
            refused(self, NoRoom, moved, (2, (1,) * 16), ("more", sign))

    def test_less(self):
        self.assertEqual(moved((2, (1,)), ("less",)), (1, ()))
        self.assertEqual(moved((2, (-1,)), ("less",)), (1, ()))
        self.assertEqual(moved((4, (1, -2, 3)), ("less",)), (3, (1, -2)))
        self.assertEqual(moved((6, (4,) * 15 + (-5,)), ("less",)), (5, (4,) * 15))
        self.assertEqual(moved((3, (2,)), ("less",)), (2, ()))

    def test_less_where_there_is_no_such_letter(self):
        for plait in [
            (1, ()), (2, ()), (6, ()), (2, (1, 1)), (2, (1, -1)), (3, (1,)), (3, (2, 1)), (3, (-2, 1, 2)), (3, (2, 1, -2)),
            (3, (-2, 1)), (4, (1, 2, 2)), (4, (3, 1, 2)), (6, (5,) * 16), (6, (4,) * 16), (6, (5,) + (4,) * 15),
        ]:
            refused(self, NoStep, moved, plait, ("less",))

    def test_flip(self):
        self.assertEqual(moved((4, (1, -2, 3, -3)), ("flip",)), (4, (3, -2, 1, -1)))
        self.assertEqual(moved((2, (1, -1)), ("flip",)), (2, (1, -1)))
        for strands in range(1, 7):
            self.assertEqual(moved((strands, ()), ("flip",)), (strands, ()))
        self.assertEqual(moved((6, (5,) * 16), ("flip",)), (6, (1,) * 16))

    def test_step(self):
        self.assertEqual(moved((4, (1, 3)), ("step", ("far", 0))), (4, (3, 1)))
        self.assertEqual(moved((3, (1, 2, -1)), ("step", ("three", 0))), (3, (-2, 1, 2)))
        self.assertEqual(moved((3, (1, 2, -2)), ("step", ("out", 1))), (3, (1,)))
        self.assertEqual(moved((3, (1,)), ("step", ("in", 1, -2))), (3, (1, -2, 2)))
        self.assertEqual(moved((2, (1,) * 14), ("step", ("in", 14, -1))), (2, (1,) * 14 + (-1, 1)))
        for step in [("far", 0), ("three", 0), ("out", 0), ("in", 5, 1), ("in", 0, 3), ("in", 0, 0)]:
            refused(self, NoStep, moved, (3, (1, 2, 2, 2)), ("step", step))

    def test_room_for_a_step(self):
        for letters in (15, 16):
            for at in (0, 7, letters):
                refused(self, NoRoom, moved, (3, (1,) * letters), ("step", ("in", at, -2)))
            for step in [("in", -1, 1), ("in", letters + 1, 1), ("in", 0, 0), ("in", 0, 3), ("in", letters, -3)]:
                refused(self, NoStep, moved, (3, (1,) * letters), ("step", step))
            for far in FAR_NUMBERS:
                refused(self, NoStep, moved, (3, (1,) * letters), ("step", ("in", far, 1)))
                refused(self, NoStep, moved, (3, (1,) * letters), ("step", ("in", 0, far)))

    def test_all_that_can_be_done_is_done_so(self):
        for plait in small_plaits(2) + closed_plaits():
            for move, led in plain_moves(plait):
                self.assertEqual(moved(plait, move), led, (plait, move))

    def test_all_else_is_refused(self):
        for plait in small_plaits(2) + closed_plaits():
            can = dict(plain_moves(plait))
            for move in MOVES + NO_MOVES:
                if move not in can:
                    full = move[:1] == ("more",) and len(move) == 2
                    refused(self, NoRoom if full else NoStep, moved, plait, move)
            could = dict(plain_steps(plait[0], plait[1], 20))
            for at in range(-1, len(plait[1]) + 2):
                steps = [(kind, at) for kind in ("far", "three", "out")]
                steps += [("in", at, letter) for letter in range(-plait[0] - 1, plait[0] + 2)]
                for step in steps:
                    if ("step", step) not in can:
                        refused(self, NoRoom if step in could else NoStep, moved, plait, ("step", step))

    def test_what_is_no_plait_is_refused_ahead_of_all(self):
        for wrong in NO_PLAITS:
            for move in MOVES + NO_MOVES + [("more", 0), ("step", ("far", -1)), ("step", ("in", 0, 1))]:
                refused(self, NoPlait, moved, wrong, move)
                refused(self, NoPlait, moved_all, wrong, [move])
            refused(self, NoPlait, moved_all, wrong, [])


class MovedAllTest(unittest.TestCase):
    """Points 52 and 53: a row of moves."""

    def test_ordinary_rows(self):
        self.assertEqual(moved_all((3, (1, 2)), []), (3, (1, 2)))
        self.assertEqual(moved_all((1, ()), []), (1, ()))
        self.assertEqual(moved_all((3, (1, -2)), [("round",), ("flip",)]), (3, (-1, 2)))
        self.assertEqual(moved_all((1, ()), [("more", 1), ("more", -1), ("flip",), ("back",)]), (3, (-1, 2)))
        self.assertEqual(moved_all((3, (2, -1)), [("round",), ("less",), ("less",)]), (1, ()))
        self.assertEqual(
            moved_all((2, (1,)), [("step", ("in", 0, 1)), ("round",), ("step", ("out", 0)), ("less",)]), (1, ()))

    def test_up_to_six_strands_and_sixteen_letters(self):
        up = [("more", 1)] * 5
        self.assertEqual(moved_all((1, ()), up), (6, (1, 2, 3, 4, 5)))
        refused(self, NoRoom, moved_all, (1, ()), up + [("more", 1)])
        refused(self, NoRoom, moved_all, (1, ()), up + [("more", 0), ("less",)])
        fill = [("step", ("in", 0, 2))] * 7
        self.assertEqual(moved_all((3, (1, 2)), fill), (3, (2, -2) * 7 + (1, 2)))
        refused(self, NoRoom, moved_all, (3, (1, 2)), fill + [("step", ("in", 0, 2))])
        refused(self, NoRoom, moved_all, (3, (1, 2)), fill + [("more", 1)])
        refused(self, NoRoom, moved_all, (3, (1,)), fill + [("step", ("in", 0, 2))])
        self.assertEqual(moved_all((3, (1,)), fill + [("more", 1)]), (4, (2, -2) * 7 + (1, 3)))
        self.assertEqual(moved_all((1, ()), up + [("less",)] * 5), (1, ()))

    def test_a_later_one_that_is_refused(self):
        good = [("round",), ("more", -1), ("flip",)]
        self.assertEqual(moved_all((3, (1, 2)), good), (4, (2, 3, -1)))
        for at in range(4):
            for bad in NO_MOVES + [("more", 2), ("step", ("far", -1)), ("step", ("in", 0, 6))]:
                refused(self, NoStep, moved_all, (3, (1, 2)), good[:at] + [bad] + good[at:])
        # What could be done with the first plait can't be done with a later one.
        refused(self, NoStep, moved_all, (3, (1, 2)), [("less",), ("less",), ("less",)])
        refused(self, NoStep, moved_all, (4, (1, 3)), [("less",), ("step", ("far", 0))])

    def test_the_first_one_that_is_refused_tells(self):
        full = (6, (5,) * 16)
        refused(self, NoRoom, moved_all, full, [("round",), ("more", 1), ("less",)])
        refused(self, NoStep, moved_all, full, [("round",), ("less",), ("more", 1)])
        refused(self, NoRoom, moved_all, full, [("step", ("in", 0, 1)), ("step", ("in", 0, 6))])
        refused(self, NoStep, moved_all, full, [("step", ("in", 0, 6)), ("step", ("in", 0, 1))])

    def test_long_rows(self):
        for plait in closed_plaits():
            row = walk_moves(plait, plait[0] + len(plait[1]), 150)
            moves = [move for move, _ in row]
            self.assertEqual(moved_all(plait, moves), row[-1][1])
            for many in (1, 2, 70, 149):
                self.assertEqual(moved_all(plait, moves[:many]), row[many - 1][1])


class KeptTest(unittest.TestCase):
    """Point 54."""

    def check_kept(self, plait, move, led):
        before = pieces(plait)
        after = pieces(led)
        self.assertEqual(len(after), len(before))
        places = new_places(plait, move)
        numbers = []
        for part in before:
            found = {number for number, new in enumerate(after) for old in part
                     if old < len(places) and places[old] in new}
            self.assertEqual(len(found), 1)
            numbers.append(found.pop())
        self.assertEqual(sorted(numbers), list(range(len(before))))
        wanted = [(*sorted((numbers[one], numbers[other])), winding) for one, other, winding in windings(plait)]
        self.assertEqual(windings(led), sorted(wanted))

    def check_turns(self, plait, move, led):
        change = 0
        if move[0] == "more":
            change = move[1]
        if move[0] == "less":
            change = -1 if plait[1][-1] > 0 else 1
        self.assertEqual(turns(led), turns(plait) + change)

    def test_pieces_windings_and_turns(self):
        for plait in small_plaits(2) + closed_plaits():
            for move, _ in plain_moves(plait):
                led = moved(plait, move)
                self.check_kept(plait, move, led)
                self.check_turns(plait, move, led)

    def test_by_long_rows(self):
        for plait in closed_plaits():
            for move, led in walk_moves(plait, 3 * plait[0] + len(plait[1]), 60):
                self.check_kept(plait, move, moved(plait, move))
                self.check_turns(plait, move, moved(plait, move))
                plait = led

    def test_each_can_be_taken_back(self):
        for plait in small_plaits(2) + closed_plaits():
            for move, led in plain_moves(plait):
                if move[0] == "step":
                    step = move[1]
                    back = ("step", {"in": ("out", step[1])}.get(step[0], step))
                    if step[0] == "out":
                        back = ("step", ("in", step[1], plait[1][step[1]]))
                elif move[0] == "less":
                    back = ("more", 1 if plait[1][-1] > 0 else -1)
                else:
                    back = {"round": ("back",), "back": ("round",), "more": ("less",), "flip": ("flip",)}[move[0]]
                self.assertEqual(moved_all(plait, [move, back]), plait)
                self.assertEqual(moved(led, back), plait)


class HandedInTest(unittest.TestCase):
    """Point 1."""

    def test_what_is_told_is_the_askers_own(self):
        for plait in closed_plaits():
            first = pieces(plait)
            wanted = [list(part) for part in first]
            self.assertIs(type(first), list)
            self.assertEqual(len({id(part) for part in first}), len(first))
            for part in first:
                self.assertIs(type(part), list)
                part.append(9)
            first.append([])
            self.assertEqual(pieces(plait), wanted)
            told = windings(plait)
            kept = list(told)
            self.assertIs(type(told), list)
            plain(self, tuple(told))
            told.clear()
            self.assertEqual(windings(plait), kept)

    def test_what_is_handed_in_stays_and_is_not_kept(self):
        row = [("more", 1), ("round",)]
        self.assertEqual(moved_all((2, (1, -1)), row), (3, (-1, 2, 1)))
        self.assertEqual(row, [("more", 1), ("round",)])
        row.pop()
        self.assertEqual(moved_all((2, (1, -1)), row), (3, (1, -1, 2)))

    def test_what_is_told_is_plain(self):
        for plait in closed_plaits():
            for move, _ in plain_moves(plait):
                plain(self, moved(plait, move))

    def test_nothing_is_left_by_a_refusal(self):
        refused(self, NoStep, moved_all, (3, (1, 2)), [("round",), ("less",), ("less",)])
        refused(self, NoRoom, moved, (6, (5,)), ("more", 1))
        self.assertEqual(moved_all((3, (1, 2)), [("round",)]), (3, (2, 1)))


if __name__ == "__main__":
    unittest.main()
