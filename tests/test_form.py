"""Points 1 and 30 to 34, and the interface's section loopwright/form.py."""

import unittest
from functools import lru_cache
from itertools import permutations, product

from helper import (
    HUGE, NO_PLAITS, NO_WORDS, arguments_are, letters_of, long_plaits, plain, plain_images, refused, refused_of_two,
    small_plaits, walk_from,
)
from loopwright import form
from loopwright.errors import NoPlait
from loopwright.form import form_by, form_of, is_form, same_form, word_of
from loopwright.letters import alike
from loopwright.plaits import behind, order_of, turned


def plain_order(strands):
    return tuple(range(strands))


def half_twist(strands):
    return tuple(reversed(range(strands)))


def crossings(order):
    """How many pairs of places there are of which the first one's number is greater."""
    return sum(order[one] > order[other] for other in range(len(order)) for one in range(other))


def exchanged_places(order, i):
    """The order without the letter i ahead of it, or with it: the numbers at the places i - 1 and i exchanged."""
    return tuple(order[{i - 1: i, i: i - 1}.get(place, place)] for place in range(len(order)))


def exchanged_numbers(order, i):
    """The order without the letter i behind it, or with it: the numbers i - 1 and i exchanged."""
    return tuple({i - 1: i, i: i - 1}.get(number, number) for number in order)


@lru_cache(None)
def letters_begun(order):
    return [i for i in range(1, len(order)) if crossings(exchanged_places(order, i)) < crossings(order)]


@lru_cache(None)
def letters_ended(order):
    return [i for i in range(1, len(order)) if crossings(exchanged_numbers(order, i)) < crossings(order)]


@lru_cache(None)
def orders_in_forms(strands):
    return [order for order in permutations(range(strands)) if order not in (plain_order(strands), half_twist(strands))]


def can_follow(order, other):
    return set(letters_begun(other)) <= set(letters_ended(order))


def plainly_form(strands, given):
    """Tell whether a tuple is a form, straight by what point 32 says."""
    power, orders = given
    if strands == 1:
        return power == 0 and orders == ()
    if not set(orders) <= set(orders_in_forms(strands)):
        return False
    return all(can_follow(*pair) for pair in zip(orders, orders[1:]))


@lru_cache(None)
def word_of_order(order):
    """The letters of an order, by what point 34 says."""
    letters = ()
    while letters_begun(order):
        letters += (letters_begun(order)[0],)
        order = exchanged_places(order, letters[-1])
    return letters


def plain_word(strands, given):
    power, orders = given
    twist = word_of_order(half_twist(strands))
    if power < 0:
        twist = tuple(-letter for letter in reversed(twist))
    return twist * abs(power) + sum([word_of_order(order) for order in orders], ())


def forms_of(strands, most_orders, powers=(0,)):
    """All forms with these powers and up to so many orders."""
    rows = [()]
    for _ in range(most_orders):
        longest = [row for row in rows if len(row) == len(rows[-1])]
        rows += [row + (order,) for row in longest for order in orders_in_forms(strands)
                 if not row or can_follow(row[-1], order)]
    return [(power, row) for power in powers for row in rows]


def row_of_orders(strands, many, pace):
    """So many orders that can stand in a form, chosen by a fixed rule."""
    row = ()
    for at in range(many):
        found = [order for order in orders_in_forms(strands) if not row or can_follow(row[-1], order)]
        row += (found[(pace * at * at + at + pace) % len(found)],)
    return row


def long_words():
    """Words of 100 to 500 letters, made by a fixed rule."""
    words = []
    for strands in range(2, 7):
        letters = letters_of(strands)
        for length in (100, 499, 500):
            for pace in (1, 3, 7):
                word = tuple(letters[(pace * at * at + at // 3 + at // 7) % len(letters)] for at in range(length))
                words.append((strands, word))
        words.append((strands, tuple(range(1, strands)) * (500 // (strands - 1))))
        words.append((strands, tuple(range(-1, -strands, -1)) * (500 // (strands - 1))))
        words.append((strands, (1,) * 500))
        words.append((strands, (1 - strands,) * 500))
        words.append((strands, (1, -1) * 250))
    return words


class InterfaceTest(unittest.TestCase):
    def test_names_and_arguments(self):
        arguments_are(self, form, {
            "form_of": ["plait"], "form_by": ["strands", "word"], "same_form": ["one", "other"],
            "is_form": ["strands", "form"], "word_of": ["strands", "form"],
        })


class OrdersTest(unittest.TestCase):
    """Points 30, 31 and 34: the letters of one order."""

    def test_each_order_is_the_order_of_its_letters(self):
        for strands in range(3, 7):
            for order in orders_in_forms(strands):
                word = word_of(strands, (0, (order,)))
                self.assertEqual(word, word_of_order(order))
                self.assertEqual(len(word), crossings(order))
                self.assertEqual(order_of((strands, word)), order)
                self.assertTrue(all(letter > 0 for letter in word))
                self.assertEqual(form_of((strands, word)), (0, (order,)))

    def test_all_shortest_plaits_of_an_order_have_one_form(self):
        for strands in (3, 4):
            for length in range(1, 7):
                for word in product(range(1, strands), repeat=length):
                    order = order_of((strands, word))
                    if crossings(order) == length and order != half_twist(strands):
                        self.assertEqual(form_of((strands, word)), (0, (order,)))

    def test_the_half_twist(self):
        self.assertEqual(word_of(1, (0, ())), ())
        self.assertEqual(word_of(2, (1, ())), (1,))
        self.assertEqual(word_of(3, (1, ())), (1, 2, 1))
        self.assertEqual(word_of(4, (1, ())), (1, 2, 1, 3, 2, 1))
        self.assertEqual(word_of(5, (1, ())), (1, 2, 1, 3, 2, 1, 4, 3, 2, 1))
        for strands in range(2, 7):
            word = word_of(strands, (1, ()))
            self.assertEqual(word, word_of_order(half_twist(strands)))
            self.assertEqual(order_of((strands, word)), half_twist(strands))
            self.assertEqual(form_of((strands, word)), (1, ()))
            self.assertEqual(form_of((strands, word[::-1])), (1, ()))
            self.assertEqual(form_of((strands, tuple(-letter for letter in word))), (-1, ()))

    def test_the_least_letter_comes_first(self):
        self.assertEqual(word_of(4, (0, ((1, 0, 3, 2),))), (1, 3))
        self.assertEqual(word_of(4, (0, ((3, 0, 2, 1),))), (1, 2, 3, 2))
        self.assertEqual(word_of(4, (0, ((0, 3, 2, 1),))), (2, 3, 2))
        self.assertEqual(word_of(6, (0, ((1, 0, 3, 2, 5, 4),))), (1, 3, 5))


class FormOfTest(unittest.TestCase):
    """Points 32 and 33."""

    def test_ordinary_forms(self):
        self.assertEqual(form_of((3, ())), (0, ()))
        self.assertEqual(form_of((3, (1,))), (0, ((1, 0, 2),)))
        self.assertEqual(form_of((3, (1, 2))), (0, ((2, 0, 1),)))
        self.assertEqual(form_of((3, (2, 1))), (0, ((1, 2, 0),)))
        self.assertEqual(form_of((3, (1, 1))), (0, ((1, 0, 2), (1, 0, 2))))
        self.assertEqual(form_of((3, (1, 2, 1))), (1, ()))
        self.assertEqual(form_of((3, (1, 2, 1, 1))), (1, ((1, 0, 2),)))
        self.assertEqual(form_of((3, (1, 1, 2, 1))), (1, ((0, 2, 1),)))
        self.assertEqual(form_of((3, (1, 2) * 3)), (2, ()))
        self.assertEqual(form_of((3, (1, 2) * 8)), (5, ((0, 2, 1),)))

    def test_the_letters_go_as_far_ahead_as_they_can(self):
        self.assertEqual(form_of((3, (1, 2, 2))), (0, ((2, 0, 1), (0, 2, 1))))
        self.assertEqual(form_of((3, (1, 1, 2))), (0, ((1, 0, 2), (2, 0, 1))))
        self.assertEqual(form_of((4, (1, 1, 3))), (0, ((1, 0, 3, 2), (1, 0, 2, 3))))
        self.assertEqual(form_of((4, (1, 3, 3))), (0, ((1, 0, 3, 2), (0, 1, 3, 2))))

    def test_contrary_letters(self):
        self.assertEqual(form_of((3, (-1,))), (-1, ((2, 0, 1),)))
        self.assertEqual(form_of((3, (-2,))), (-1, ((1, 2, 0),)))
        self.assertEqual(form_of((3, (1, -2))), (-1, ((0, 2, 1), (1, 2, 0))))
        self.assertEqual(form_of((3, (-1, -2, -1))), (-1, ()))
        self.assertEqual(form_of((3, (-1, -2) * 3)), (-2, ()))
        self.assertEqual(form_of((3, (1, -1))), (0, ()))
        self.assertEqual(form_of((6, (5, -1, 1, -5))), (0, ()))

    def test_one_and_two_strands(self):
        self.assertEqual(form_of((1, ())), (0, ()))
        self.assertEqual(form_by(1, ()), (0, ()))
        for length in range(17):
            for ahead in range(length + 1):
                word = (1,) * ahead + (-1,) * (length - ahead)
                self.assertEqual(form_of((2, word)), (2 * ahead - length, ()))
                self.assertEqual(form_of((2, word[::-1])), (2 * ahead - length, ()))
        self.assertEqual(form_by(2, (1,) * 500), (500, ()))
        self.assertEqual(form_by(2, (-1,) * 500), (-500, ()))

    def test_each_form_is_one_and_its_word_is_the_same_plait(self):
        for strands, word in small_plaits() + long_plaits():
            found = form_of((strands, word))
            self.assertTrue(plainly_form(strands, found), found)
            self.assertIs(is_form(strands, found), True)
            self.assertEqual(form_by(strands, word), found)
            spread = word_of(strands, found)
            # What these words make of letters on the way is too long to be looked at where there are many strands.
            if strands < 4 or len(word) < 4:
                self.assertEqual(plain_images(strands, spread), plain_images(strands, word))

    def test_plaits_have_one_form_just_where_they_make_the_same_of_each_letter(self):
        for strands in range(1, 7):
            by_form = {}
            by_images = {}
            for plait in small_plaits(4 if strands < 4 else 3):
                if plait[0] == strands:
                    found = form_of(plait)
                    made = tuple(plain_images(*plait))
                    self.assertEqual(by_form.setdefault(found, made), made)
                    self.assertEqual(by_images.setdefault(made, found), found)
            self.assertEqual(len(by_form), len(by_images))

    def test_each_form_is_the_form_of_its_word(self):
        given = [(3, one) for one in forms_of(3, 4, (-3, -1, 0, 2))]
        given += [(4, one) for one in forms_of(4, 2, (-2, -1, 0, 1))]
        given += [(5, one) for one in forms_of(5, 1, (-1, 0, 1))]
        given += [(strands, (power, row_of_orders(strands, many, 3)))
                  for strands in (3, 4, 5) for many in (5, 12, 30) for power in (-7, 0, 6)]
        for strands, one in given:
            self.assertEqual(form_by(strands, word_of(strands, one)), one)

    def test_letter_by_letter_behind_a_form(self):
        for strands, word in long_words():
            if len(word) == 100:
                for length in range(0, 100, 9):
                    ahead = word_of(strands, form_by(strands, word[:length]))
                    if len(ahead) <= 400:
                        wanted = form_by(strands, word[:length + 9])
                        self.assertEqual(form_by(strands, ahead + word[length:length + 9]), wanted)


class FormByTest(unittest.TestCase):
    """Point 33, of longer words."""

    def test_long_words(self):
        for strands, word in long_words():
            found = form_by(strands, word)
            self.assertTrue(plainly_form(strands, found))
            spread = word_of(strands, found)
            self.assertEqual(sum(x // abs(x) for x in spread), sum(x // abs(x) for x in word))

    def test_steps_keep_the_form(self):
        for strands, word in long_words():
            if len(word) == 100:
                wanted = form_by(strands, word)
                for _, led in walk_from(strands, word, strands + 77, 60, 120)[::10]:
                    self.assertEqual(form_by(strands, led), wanted)

    def test_a_word_with_its_contrary_behind_it(self):
        for strands, word in long_words():
            half = word[:250]
            contrary = tuple(-letter for letter in reversed(half))
            self.assertEqual(form_by(strands, half + contrary), (0, ()))
            self.assertEqual(form_by(strands, contrary + half), (0, ()))

    def test_how_a_form_comes_to_many_half_twists(self):
        for strands in range(2, 7):
            full = tuple(range(1, strands)) * strands
            times = 499 // len(full)
            self.assertEqual(form_by(strands, full * times), (2 * times, ()))
            self.assertEqual(form_by(strands, tuple(-letter for letter in full) * times), (-2 * times, ()))
            if strands > 2:
                wanted = (2 * times, (exchanged_places(plain_order(strands), 1),))
                self.assertEqual(form_by(strands, (1,) + full * times), wanted)
                self.assertEqual(form_by(strands, full * times + (1,)), wanted)

    def test_five_hundred_letters_are_taken_and_no_more(self):
        for strands in range(2, 7):
            for letter in (1, -1, strands - 1, 1 - strands):
                self.assertTrue(plainly_form(strands, form_by(strands, (letter,) * 500)))
                refused(self, NoPlait, form_by, strands, (letter,) * 501)
                refused(self, NoPlait, form_by, strands, (letter, -letter) * 250 + (letter,))
            refused(self, NoPlait, form_by, strands, (1,) * 5000)

    def test_more_letters_than_plaits_have_are_taken(self):
        for letters in (15, 16, 17, 18, 100):
            self.assertEqual(form_by(3, (1,) * letters), (0, ((1, 0, 2),) * letters))

    def test_what_is_no_word_is_refused(self):
        for strands, word in NO_WORDS:
            refused(self, NoPlait, form_by, strands, word)
        for at in (0, 1, 16, 250, 498, 499):
            for wrong in (0, 3, -3, HUGE, -HUGE):
                refused(self, NoPlait, form_by, 3, (1, -2) * (at // 2) + (2,) * (at % 2) + (wrong,) + (1,) * (499 - at))
        refused(self, NoPlait, form_by, 1, (1,) * 500)
        refused(self, NoPlait, form_by, 7, ())
        refused(self, NoPlait, form_by, 0, ())

    def test_what_is_no_plait_is_refused(self):
        for wrong in NO_PLAITS:
            refused(self, NoPlait, form_of, wrong)
        refused(self, NoPlait, form_of, (3, (1,) * 17))


class SameFormTest(unittest.TestCase):
    """Point 33: plaits are the same just where their forms are."""

    def test_as_alike_tells_it(self):
        plaits = [plait for plait in small_plaits() if plait[0] == 3]
        plaits += [plait for plait in small_plaits(2) if plait[0] == 4]
        for one in plaits:
            for other in plaits:
                if one[0] == other[0]:
                    same = plain_images(*one) == plain_images(*other) if one[1] != other[1] else True
                    self.assertIs(same_form(one, other), same)
                    self.assertIs(alike(one, other), same)

    def test_of_long_plaits(self):
        for strands, word in long_plaits()[::2]:
            one = (strands, word)
            self.assertIs(same_form(one, one), True)
            for other in [(strands, word[1:] + word[:1]), (strands, word[::-1]), (strands, word[2:]), turned(one)]:
                self.assertIs(same_form(one, other), alike(one, other))
                self.assertIs(same_form(other, one), alike(one, other))

    def test_of_those_that_steps_lead_to_one_another(self):
        for strands, word in long_plaits()[1::3]:
            for _, led in walk_from(strands, word, strands + len(word), 40, 16):
                self.assertIs(same_form((strands, word), (strands, led)), True)
                self.assertIs(alike((strands, word), (strands, led)), True)

    def test_with_the_contrary_behind_it(self):
        for plait in small_plaits():
            self.assertIs(same_form(behind(plait, turned(plait)), (plait[0], ())), True)

    def test_refusals(self):
        refused_of_two(self, same_form)


class IsFormTest(unittest.TestCase):
    """Point 32."""

    def check(self, strands, given):
        self.assertIs(is_form(strands, given), plainly_form(strands, given), (strands, given))
        if plainly_form(strands, given):
            self.assertEqual(word_of(strands, given), plain_word(strands, given))
        else:
            refused(self, NoPlait, word_of, strands, given)

    def test_ordinary_forms(self):
        self.assertIs(is_form(3, (0, ())), True)
        self.assertIs(is_form(3, (-2, ((1, 0, 2), (1, 2, 0), (1, 0, 2)))), False)
        self.assertIs(is_form(3, (-2, ((1, 0, 2), (2, 0, 1), (1, 2, 0)))), True)
        self.assertIs(is_form(3, (0, ((1, 0, 2), (0, 2, 1)))), False)
        self.assertIs(is_form(3, (0, ((1, 0, 2), (1, 0, 2)))), True)
        self.assertIs(is_form(4, (5, ((1, 0, 3, 2), (0, 1, 3, 2)))), True)
        self.assertIs(is_form(4, (5, ((0, 1, 3, 2), (1, 0, 3, 2)))), False)

    def test_all_rows_of_orders(self):
        for power in (-1, 0, 1):
            for many in range(4):
                for orders in product(permutations(range(3)), repeat=many):
                    self.check(3, (power, orders))
        for orders in product(permutations(range(4)), repeat=2):
            self.check(4, (0, orders))
        some = list(permutations(range(6)))[::37]
        for orders in product(some, repeat=2):
            self.check(6, (0, orders))

    def test_one_strand(self):
        self.check(1, (0, ()))
        self.assertEqual(word_of(1, (0, ())), ())
        for power in (-30, -2, -1, 1, 2, 30, 31):
            self.assertIs(is_form(1, (power, ())), False)
            refused(self, NoPlait, word_of, 1, (power, ()))
        for orders in [((),), ((0,),), ((1,),), ((0,), (0,)), ((0, 1),), ((1, 0),)]:
            self.check(1, (0, orders))
            self.check(1, (1, orders))

    def test_two_strands(self):
        for power in range(-30, 31):
            self.check(2, (power, ()))
            self.assertEqual(word_of(2, (power, ())), ((1,) if power > 0 else (-1,)) * abs(power))
        for orders in [((0, 1),), ((1, 0),), ((1, 0), (1, 0)), ((0,),), ((1,),), ((),), ((2, 1),), ((0, 0),)]:
            self.assertIs(is_form(2, (0, orders)), False)
            self.check(2, (0, orders))

    def test_the_plain_order_and_the_half_twist_in_any_place(self):
        for strands in range(2, 7):
            good = row_of_orders(strands, 3, 1) if strands > 2 else ()
            self.check(strands, (0, good))
            for wrong in (plain_order(strands), half_twist(strands)):
                for at in range(len(good) + 1):
                    self.assertIs(is_form(strands, (0, good[:at] + (wrong,) + good[at:])), False)

    def test_what_is_no_order(self):
        for wrong in [
            (), (0,), (0, 2), (1, 0), (1, 0, 2, 3), (0, 1, 2, 3), (1, 0, 3), (2, 1, 3), (1, 0, 0), (1, 1, 1), (0, -1, 2),
            (-1, 0, 1), (-1, 0, 2), (1, 0, -2), (1, 0, HUGE), (HUGE,) * 3, (1, 0, 2, 2), (3, 0, 1), (1, 0) * 200,
        ]:
            for orders in [(wrong,), ((1, 0, 2), wrong), (wrong, (1, 0, 2)), ((1, 0, 2), wrong, (1, 0, 2)), (wrong, wrong)]:
                self.assertIs(is_form(3, (0, orders)), False)
                self.check(3, (0, orders))

    def test_orders_of_other_numbers_of_strands(self):
        for strands in range(1, 7):
            for other in range(3, 7):
                if other != strands:
                    self.assertIs(is_form(strands, (0, (exchanged_places(plain_order(other), 1),))), False)
                    refused(self, NoPlait, word_of, strands, (0, (exchanged_places(plain_order(other), 1),)))

    def test_other_numbers_of_strands(self):
        for strands in (-HUGE, -6, -1, 0, 7, 8, 100, HUGE):
            for given in [(0, ()), (1, ()), (0, ((1, 0, 2),)), (0, ((),)), (0, ((1, 0, 2, 3, 4, 5, 6),))]:
                self.assertIs(is_form(strands, given), False)
                refused(self, NoPlait, word_of, strands, given)


class WordOfTest(unittest.TestCase):
    """Point 34."""

    def test_ordinary_words(self):
        self.assertEqual(word_of(3, (0, ())), ())
        self.assertEqual(word_of(3, (2, ())), (1, 2, 1, 1, 2, 1))
        self.assertEqual(word_of(3, (-2, ())), (-1, -2, -1, -1, -2, -1))
        self.assertEqual(word_of(4, (-1, ())), (-1, -2, -3, -1, -2, -1))
        self.assertEqual(word_of(4, (-2, ())), (-1, -2, -3, -1, -2, -1) * 2)
        self.assertEqual(word_of(3, (-1, ((2, 0, 1),))), (-1, -2, -1, 1, 2))
        self.assertEqual(word_of(3, (1, ((0, 2, 1), (1, 2, 0)))), (1, 2, 1, 2, 2, 1))

    def test_all_powers(self):
        for strands in range(2, 7):
            twist = word_of_order(half_twist(strands))
            contrary = tuple(-letter for letter in reversed(twist))
            for power in range(-31, 32):
                self.assertIs(is_form(strands, (power, ())), True)
                self.assertEqual(word_of(strands, (power, ())), twist * power + contrary * -power)

    def test_thirty_orders(self):
        for strands in range(3, 7):
            for power in (-30, -29, -1, 0, 1, 29, 30):
                for pace in (1, 2, 5):
                    for many in (1, 29, 30, 31):
                        given = (power, row_of_orders(strands, many, pace))
                        self.assertIs(is_form(strands, given), True)
                        self.assertEqual(word_of(strands, given), plain_word(strands, given))

    def test_thirty_orders_of_which_two_can_not_follow(self):
        for strands in range(3, 7):
            good = row_of_orders(strands, 30, 1)
            for at in range(29):
                for order in orders_in_forms(strands)[::7]:
                    given = (30, good[:at] + (order,) + good[at + 1:])
                    self.assertIs(is_form(strands, given), plainly_form(strands, given))


class HandedInTest(unittest.TestCase):
    """Point 1."""

    def test_what_is_told_is_plain_and_hangs_on_nothing_before(self):
        first = [form_of(plait) for plait in long_plaits()]
        refused(self, NoPlait, form_by, 3, (1, 3))
        refused(self, NoPlait, word_of, 3, (0, ((2, 1, 0),)))
        self.assertEqual([form_of(plait) for plait in long_plaits()], first)
        plain(self, tuple(first))
        for strands, word in long_words():
            plain(self, form_by(strands, word))
        for strands in range(3, 7):
            given = (-3, row_of_orders(strands, 8, 1))
            plain(self, word_of(strands, given))
            self.assertEqual(given, (-3, row_of_orders(strands, 8, 1)))


if __name__ == "__main__":
    unittest.main()
