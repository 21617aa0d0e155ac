"""Points 1, 10, 11, 12 and 13, and the interface's section loopwright/plaits.py."""

import unittest

from helper import HUGE, NO_PLAITS, all_plaits, arguments_are, long_plaits, plain, refused, small_plaits
from loopwright import plaits
from loopwright.errors import NoPlait, NoRoom, NoStep
from loopwright.plaits import behind, flipped, looked, mirrored, often, order_of, shorter, turned

SINGLE = [looked, turned, mirrored, flipped, shorter, order_of]


def shorter_from_the_end(word):
    """Take pairs out, the last one first: another order than the program's."""
    for at in range(len(word) - 2, -1, -1):
        if word[at] == -word[at + 1]:
            return shorter_from_the_end(word[:at] + word[at + 2:])
    return word


def place_reached(plait, place):
    """Follow one strand by the places 1 to n, apart from all others."""
    at = place + 1
    for letter in plait[1]:
        if abs(letter) == at:
            at += 1
        elif abs(letter) == at - 1:
            at -= 1
    return at - 1


class InterfaceTest(unittest.TestCase):
    def test_names_and_arguments(self):
        arguments_are(self, plaits, {
            "looked": ["plait"], "behind": ["one", "other"], "turned": ["plait"], "mirrored": ["plait"],
            "flipped": ["plait"], "shorter": ["plait"], "often": ["plait", "many"], "order_of": ["plait"],
        })


class LookedTest(unittest.TestCase):
    """Point 10."""

    def test_tells_how_many_letters(self):
        self.assertEqual(looked((4, (1, -2, 3))), 3)
        self.assertEqual(looked((1, ())), 0)
        self.assertEqual(looked((6, ())), 0)
        self.assertEqual(looked((6, (5, -5) * 8)), 16)
        self.assertEqual(looked((2, (1,) * 16)), 16)

    def test_takes_every_plait(self):
        for plait in all_plaits():
            self.assertEqual(looked(plait), len(plait[1]))

    def test_every_function_refuses_what_is_no_plait(self):
        for wrong in NO_PLAITS:
            for call in SINGLE:
                refused(self, NoPlait, call, wrong)

    def test_strands_and_letters_all_round_the_bounds(self):
        for strands in range(-3, 10):
            for letter in range(-9, 10):
                plait = (strands, (letter,))
                if 1 <= strands <= 6 and letter != 0 and -strands < letter < strands:
                    self.assertEqual(looked(plait), 1)
                else:
                    refused(self, NoPlait, looked, plait)

    def test_every_letter_is_looked_at(self):
        for at in range(16):
            word = (1, 2) * 8
            refused(self, NoPlait, looked, (3, word[:at] + (3,) + word[at + 1:]))


class BehindTest(unittest.TestCase):
    """Point 11: behind."""

    def test_the_letters_of_the_one_come_first(self):
        self.assertEqual(behind((4, (1, -2)), (4, (3,))), (4, (1, -2, 3)))
        self.assertEqual(behind((4, (3,)), (4, (1, -2))), (4, (3, 1, -2)))
        self.assertEqual(behind((1, ()), (1, ())), (1, ()))
        self.assertEqual(behind((6, ()), (6, (5, -1))), (6, (5, -1)))
        self.assertEqual(behind((6, (5, -1)), (6, ())), (6, (5, -1)))

    def test_a_letter_beside_its_contrary_stays(self):
        self.assertEqual(behind((3, (1,)), (3, (-1,))), (3, (1, -1)))

    def test_sixteen_letters_have_room_and_seventeen_have_none(self):
        for ahead in range(17):
            one = (3, (1,) * ahead)
            self.assertEqual(behind(one, (3, (-2,) * (16 - ahead))), (3, (1,) * ahead + (-2,) * (16 - ahead)))
            if ahead > 0:
                refused(self, NoRoom, behind, one, (3, (-2,) * (17 - ahead)))
        refused(self, NoRoom, behind, (3, (1,) * 16), (3, (2,) * 16))
        refused(self, NoRoom, behind, (3, (1,) * 16), (3, (-1,) * 16))

    def test_unlike_strands(self):
        for one in range(1, 7):
            for other in range(1, 7):
                if one == other:
                    self.assertEqual(behind((one, ()), (other, ())), (one, ()))
                else:
                    refused(self, NoStep, behind, (one, ()), (other, ()))
        refused(self, NoStep, behind, (3, (1,)), (4, (1,)))

    def test_unlike_strands_are_refused_ahead_of_room(self):
        refused(self, NoStep, behind, (3, (1,) * 16), (4, (1,) * 16))
        refused(self, NoStep, behind, (4, (1,) * 9), (3, (1,) * 8))

    def test_no_plait_is_refused_ahead_of_strands_and_room(self):
        for wrong in NO_PLAITS:
            for good in [(3, ()), (3, (1,) * 16), (4, (1, 2)), (1, ())]:
                refused(self, NoPlait, behind, wrong, good)
                refused(self, NoPlait, behind, good, wrong)
            refused(self, NoPlait, behind, wrong, wrong)


class ContraryTest(unittest.TestCase):
    """Point 11: turned, mirrored, flipped."""

    def test_turned(self):
        self.assertEqual(turned((4, (1, -2, 3))), (4, (-3, 2, -1)))
        self.assertEqual(turned((1, ())), (1, ()))
        self.assertEqual(turned((6, (1, 2, 3, 4, -5))), (6, (5, -4, -3, -2, -1)))

    def test_mirrored(self):
        self.assertEqual(mirrored((4, (1, -2, 3))), (4, (-1, 2, -3)))
        self.assertEqual(mirrored((1, ())), (1, ()))
        self.assertEqual(mirrored((6, (1, 2, 3, 4, -5))), (6, (-1, -2, -3, -4, 5)))

    def test_flipped(self):
        self.assertEqual(flipped((4, (1, -2, 3))), (4, (3, -2, 1)))
        self.assertEqual(flipped((3, (1, -1, 2))), (3, (2, -2, 1)))
        self.assertEqual(flipped((2, (1, -1))), (2, (1, -1)))
        self.assertEqual(flipped((1, ())), (1, ()))
        self.assertEqual(flipped((6, (1, 2, 3, 4, -5))), (6, (5, 4, 3, 2, -1)))

    def test_each_is_undone_by_itself(self):
        for call in (turned, mirrored, flipped):
            for plait in all_plaits():
                self.assertEqual(call(call(plait)), plait)

    def test_letter_by_letter(self):
        for strands, word in all_plaits():
            plait = (strands, word)
            self.assertEqual(turned(plait), (strands, tuple(-letter for letter in word[::-1])))
            self.assertEqual(mirrored(plait), (strands, tuple(-letter for letter in word)))
            wanted = tuple(strands - i if i > 0 else -(strands - -i) for i in word)
            self.assertEqual(flipped(plait), (strands, wanted))


class OftenTest(unittest.TestCase):
    """Point 11: a plait many times."""

    def test_ordinary_numbers(self):
        plait = (4, (1, -2, 3))
        self.assertEqual(often(plait, 1), plait)
        self.assertEqual(often(plait, 2), (4, (1, -2, 3, 1, -2, 3)))
        self.assertEqual(often(plait, 5), (4, (1, -2, 3) * 5))
        self.assertEqual(often(plait, 0), (4, ()))
        self.assertEqual(often(plait, -1), (4, (-3, 2, -1)))
        self.assertEqual(often(plait, -2), (4, (-3, 2, -1, -3, 2, -1)))

    def test_a_letter_beside_its_contrary_stays(self):
        self.assertEqual(often((2, (1, -1)), 2), (2, (1, -1, 1, -1)))
        self.assertEqual(often((3, (1, 2, -1)), -2), (3, (1, -2, -1, 1, -2, -1)))

    def test_as_putting_behind_tells_it(self):
        for plait in small_plaits():
            for many in range(-5, 6):
                wanted = (plait[0], ())
                for _ in range(abs(many)):
                    wanted = behind(wanted, plait if many > 0 else turned(plait))
                self.assertEqual(often(plait, many), wanted)

    def test_where_the_room_ends(self):
        for letters in range(1, 17):
            plait = (3, ((1, 2) * 8)[:letters])
            for many in range(-18, 19):
                if letters * abs(many) > 16:
                    refused(self, NoRoom, often, plait, many)
                else:
                    self.assertEqual(looked(often(plait, many)), letters * abs(many))

    def test_numbers_as_great_as_can_be(self):
        for many in (2 ** 31, 2 ** 63, 2 ** 64, 10 ** 30, HUGE):
            for strands in range(1, 7):
                self.assertEqual(often((strands, ()), many), (strands, ()))
                self.assertEqual(often((strands, ()), -many), (strands, ()))
            for plait in [(2, (1,)), (6, (5, -5)), (3, (1,) * 16)]:
                refused(self, NoRoom, often, plait, many)
                refused(self, NoRoom, often, plait, -many)

    def test_no_plait_is_refused_ahead_of_room(self):
        for wrong in NO_PLAITS:
            for many in (-HUGE, -2, -1, 0, 1, 2, 17, HUGE):
                refused(self, NoPlait, often, wrong, many)


class OrderTest(unittest.TestCase):
    """Point 12."""

    def test_ordinary_orders(self):
        self.assertEqual(order_of((3, (1, 2))), (2, 0, 1))
        self.assertEqual(order_of((3, (2, 1))), (1, 2, 0))
        self.assertEqual(order_of((3, (-1, 2))), (2, 0, 1))
        self.assertEqual(order_of((4, (1, 2, 3))), (3, 0, 1, 2))
        self.assertEqual(order_of((2, (1,))), (1, 0))
        self.assertEqual(order_of((2, (1, 1))), (0, 1))
        self.assertEqual(order_of((2, (-1,) * 15)), (1, 0))

    def test_without_letters_each_strand_keeps_its_place(self):
        for strands in range(1, 7):
            self.assertEqual(order_of((strands, ())), tuple(range(strands)))

    def test_each_strand_followed_by_itself(self):
        for plait in all_plaits():
            wanted = tuple(place_reached(plait, place) for place in range(plait[0]))
            self.assertEqual(order_of(plait), wanted)

    def test_the_contrary_leads_back(self):
        for plait in long_plaits():
            back = order_of(turned(plait))
            self.assertEqual([back[place] for place in order_of(plait)], list(range(plait[0])))


class ShorterTest(unittest.TestCase):
    """Point 13."""

    def test_ordinary_plaits(self):
        self.assertEqual(shorter((3, (1, -1))), (3, ()))
        self.assertEqual(shorter((3, (-1, 1))), (3, ()))
        self.assertEqual(shorter((3, (1, 2, -2, -1))), (3, ()))
        self.assertEqual(shorter((3, (1, 2, -2, 1))), (3, (1, 1)))
        self.assertEqual(shorter((3, (1, -1, 1))), (3, (1,)))
        self.assertEqual(shorter((3, (1, 2, -1))), (3, (1, 2, -1)))
        self.assertEqual(shorter((1, ())), (1, ()))
        self.assertEqual(shorter((2, (1, -1) * 8)), (2, ()))
        self.assertEqual(shorter((6, (5,) * 8 + (-5,) * 8)), (6, ()))
        self.assertEqual(shorter((6, (5,) * 16)), (6, (5,) * 16))

    def test_nothing_else_is_taken_out(self):
        self.assertEqual(shorter((4, (1, 3, -1, -3))), (4, (1, 3, -1, -3)))
        self.assertEqual(shorter((3, (1, 2, 1, -2, -1, -2))), (3, (1, 2, 1, -2, -1, -2)))
        self.assertEqual(shorter((3, (1, -2))), (3, (1, -2)))

    def test_as_when_taken_out_in_another_order(self):
        for plait in small_plaits(4) + long_plaits():
            self.assertEqual(shorter(plait), (plait[0], shorter_from_the_end(plait[1])))

    def test_a_plait_with_its_contrary_behind_it(self):
        for plait in small_plaits():
            self.assertEqual(shorter(behind(plait, turned(plait))), (plait[0], ()))


class HandedInTest(unittest.TestCase):
    """Point 1."""

    def test_what_is_handed_in_stays(self):
        plait = (4, (1, -1, 3, 2))
        other = (4, (2, -3))
        for call in SINGLE:
            call(plait)
        behind(plait, other)
        for many in (-2, 0, 3):
            often(plait, many)
        self.assertEqual((plait, other), ((4, (1, -1, 3, 2)), (4, (2, -3))))

    def test_what_is_told_is_plain_and_hangs_on_nothing_before(self):
        for call in SINGLE:
            first = [call(plait) for plait in long_plaits()]
            self.assertEqual([call(plait) for plait in long_plaits()], first)
            plain(self, tuple(first))
        for plait in small_plaits(2):
            plain(self, behind(plait, plait))
            for many in (-2, -1, 0, 1, 2):
                plain(self, often(plait, many))

    def test_nothing_is_left_by_a_refusal(self):
        refused(self, NoRoom, often, (3, (1, 2)), 9)
        refused(self, NoStep, behind, (3, (1, 2)), (4, ()))
        self.assertEqual(often((3, (1, 2)), 1), (3, (1, 2)))


if __name__ == "__main__":
    unittest.main()
