"""Points 1 and 20 to 24, and the interface's section loopwright/letters.py."""

import unittest

from helper import (
    HUGE, NO_PLAITS, SAME, UNLIKE, all_plaits, arguments_are, letters_of, long_plaits, plain, plain_images,
    plainly_reduced, refused, refused_of_two, small_plaits, walk_from,
)
from loopwright import letters
from loopwright.errors import NoNumber, NoPlait
from loopwright.form import same_form
from loopwright.letters import alike, image, images, joined, reduced, shows_unlike, unlike
from loopwright.plaits import behind, order_of, turned


def free_words():
    """Free words of up to 5,000 letters, made by a fixed rule; in the last ones many pairs can be taken out."""
    words = []
    for length in (0, 1, 2, 3, 7, 50, 1000, 4999, 5000):
        for pace in (1, 2, 5, 7):
            words.append(tuple([1, -1, 2, 6, -2, -6, 3][(pace * at * at + at // 3) % 7] for at in range(length)))
            words.append(tuple([1, -1, 2, -2][(at // pace * pace + at // 5) % 4] for at in range(length)))
        half = tuple([1, 2, -1, 3, 6, -2][at % 6] for at in range(length // 2))
        words.append(half + tuple(-x for x in reversed(half)))
    return words


class InterfaceTest(unittest.TestCase):
    def test_names_and_arguments(self):
        arguments_are(self, letters, {
            "reduced": ["word"], "joined": ["one", "other"], "image": ["plait", "j"], "images": ["plait"],
            "alike": ["one", "other"], "unlike": ["one", "other"], "shows_unlike": ["one", "other", "paper"],
        })


class FreeWordsTest(unittest.TestCase):
    """Point 20."""

    def test_reduced(self):
        self.assertEqual(reduced(()), ())
        self.assertEqual(reduced((1, -1)), ())
        self.assertEqual(reduced((-6, 6)), ())
        self.assertEqual(reduced((1, 2, -2, -1, 3)), (3,))
        self.assertEqual(reduced((1, 2, -2, 1)), (1, 1))
        self.assertEqual(reduced((1, -2, 2, -1, 1)), (1,))

    def test_what_is_reduced_stays(self):
        for word in [(1,), (1, 2, -1), (1, 2, -1, -2), (1, 1, 1), (-6, -6, 5), (1, 3, -1, -3)]:
            self.assertEqual(reduced(word), word)

    def test_as_when_taken_out_from_the_end(self):
        for word in free_words():
            self.assertEqual(reduced(word), plainly_reduced(word))

    def test_long_words(self):
        self.assertEqual(reduced((1, -1) * 2500), ())
        self.assertEqual(reduced((1,) * 2500 + (-1,) * 2500), ())
        self.assertEqual(reduced((1, 2) * 1250 + (-2, -1) * 1250), ())
        self.assertEqual(reduced((1, 2) * 2500), (1, 2) * 2500)
        self.assertEqual(reduced((6,) * 2499 + (-6,) * 2501), (-6, -6))

    def test_joined(self):
        self.assertEqual(joined((1, 2), (3,)), (1, 2, 3))
        self.assertEqual(joined((3,), (1, 2)), (3, 1, 2))
        self.assertEqual(joined((1, 2), (-2, 3)), (1, 3))
        self.assertEqual(joined((1, 2), (-2, -1)), ())
        self.assertEqual(joined((), ()), ())
        self.assertEqual(joined((), (5,)), (5,))
        self.assertEqual(joined((5,), ()), (5,))

    def test_joined_reduces_what_is_in_either_word(self):
        self.assertEqual(joined((1, -1, 2), (3, 3, -3)), (2, 3))
        self.assertEqual(joined((1, -1), ()), ())
        self.assertEqual(joined((), (2, 1, -1)), (2,))
        self.assertEqual(joined((2, 1, -1), (1, -1, -2)), ())

    def test_joined_long_words(self):
        for word in free_words():
            self.assertEqual(joined(word, tuple(-x for x in reversed(word))), ())
            self.assertEqual(joined(word, word), plainly_reduced(word + word))
            self.assertEqual(joined(word, (4, -3)), plainly_reduced(word + (4, -3)))


class ImageTest(unittest.TestCase):
    """Points 21 and 22."""

    def test_of_one_letter(self):
        self.assertEqual(images((2, (1,))), [(1, 2, -1), (1,)])
        self.assertEqual(images((2, (-1,))), [(2,), (-2, 1, 2)])
        self.assertEqual(images((4, (2,))), [(1,), (2, 3, -2), (2,), (4,)])
        self.assertEqual(images((4, (-2,))), [(1,), (3,), (-3, 2, 3), (4,)])
        self.assertEqual(images((6, (5,))), [(1,), (2,), (3,), (4,), (5, 6, -5), (5,)])
        self.assertEqual(images((6, (-5,))), [(1,), (2,), (3,), (4,), (6,), (-6, 5, 6)])

    def test_the_first_letter_makes_its_word_first(self):
        self.assertEqual(image((3, (1, 2)), 1), (1, 2, 3, -2, -1))
        self.assertEqual(image((3, (1, 2)), 2), (1,))
        self.assertEqual(image((3, (1, 2)), 3), (2,))
        self.assertEqual(image((3, (2, 1)), 1), (1, 2, -1))
        self.assertEqual(image((3, (2, 1)), 2), (1, 3, -1))
        self.assertEqual(image((3, (2, 1)), 3), (1,))

    def test_contrary_letters_and_several_behind_one_another(self):
        self.assertEqual(image((2, (1, 1)), 1), (1, 2, 1, -2, -1))
        self.assertEqual(image((2, (1, 1)), 2), (1, 2, -1))
        self.assertEqual(image((3, (1, -2)), 1), (1, 3, -1))
        self.assertEqual(image((3, (1, -2)), 3), (-3, 2, 3))

    def test_what_comes_is_reduced(self):
        for plait in long_plaits():
            for word in images(plait):
                self.assertEqual(word, plainly_reduced(word))

    def test_one_strand_and_no_letters(self):
        self.assertEqual(image((1, ()), 1), (1,))
        for strands in range(1, 7):
            self.assertEqual(images((strands, ())), [(j,) for j in range(1, strands + 1)])

    def test_as_found_from_the_last_letter_on(self):
        for strands, word in all_plaits():
            wanted = plain_images(strands, word)
            self.assertEqual(images((strands, word)), wanted)
            for j in range(1, strands + 1):
                self.assertEqual(image((strands, word), j), wanted[j - 1])

    def test_as_long_as_they_come(self):
        for strands in range(3, 7):
            word = (2, -1) * 8
            found = images((strands, word))
            self.assertEqual(found, plain_images(strands, word))
            self.assertEqual(max(len(made) for made in found), 8359)

    def test_numbers_that_no_letter_has(self):
        for strands, word in [(1, ()), (2, (1,)), (4, (1, -2, 3)), (6, (5,) * 16)]:
            for j in (-HUGE, -7, -2, -1, 0, strands + 1, strands + 2, 7, 16, HUGE):
                refused(self, NoNumber, image, (strands, word), j)
            self.assertEqual(image((strands, word), 1), plain_images(strands, word)[0])
            self.assertEqual(image((strands, word), strands), plain_images(strands, word)[-1])

    def test_no_plait_is_refused_ahead_of_the_number(self):
        for wrong in NO_PLAITS:
            refused(self, NoPlait, images, wrong)
            for j in (-HUGE, -1, 0, 1, 2, 6, 7, HUGE):
                refused(self, NoPlait, image, wrong, j)


class WholeTest(unittest.TestCase):
    """Point 24."""

    def test_all_letters_behind_one_another_stay(self):
        for plait in all_plaits():
            whole = ()
            for word in images(plait):
                whole = joined(whole, word)
            self.assertEqual(whole, tuple(range(1, plait[0] + 1)))

    def test_a_letter_between_a_word_and_its_contrary(self):
        for plait in all_plaits():
            for j in range(1, plait[0] + 1):
                word = image(plait, j)
                half = len(word) // 2
                self.assertEqual(len(word), 2 * half + 1)
                self.assertEqual(word[half], order_of(plait)[j - 1] + 1)
                self.assertEqual(word[half + 1:], tuple(-x for x in reversed(word[:half])))


class SameTest(unittest.TestCase):
    """Point 23."""

    def test_plaits_that_are_the_same(self):
        for one, other in SAME:
            for first, second in [(one, other), (other, one), (one, one)]:
                self.assertIs(alike(first, second), True)
                self.assertIsNone(unlike(first, second))

    def test_plaits_that_are_not_the_same(self):
        for one, other, wanted in UNLIKE:
            self.assertIs(alike(one, other), False)
            self.assertIs(alike(other, one), False)
            j, of_one, of_other = unlike(one, other)
            if wanted:
                self.assertEqual((j, of_one, of_other), wanted)
            self.assertEqual(unlike(other, one), (j, of_other, of_one))

    def test_the_least_letter_and_both_words_are_told(self):
        plaits = [plait for plait in small_plaits(2) if plait[0] in (3, 4)]
        for one in plaits:
            for other in plaits:
                if one[0] == other[0]:
                    pairs = list(zip(plain_images(*one), plain_images(*other)))
                    differing = [j for j in range(one[0]) if pairs[j][0] != pairs[j][1]]
                    wanted = (differing[0] + 1, *pairs[differing[0]]) if differing else None
                    self.assertEqual(unlike(one, other), wanted)
                    self.assertIs(alike(one, other), not differing)

    def test_of_two_that_differ_late_alone(self):
        self.assertEqual(unlike((6, (1, 5)), (6, (1, -5))), (5, (5, 6, -5), (6,)))
        self.assertEqual(unlike((6, (1, 5, 5)), (6, (1,)))[0], 5)
        for strands in range(2, 7):
            self.assertEqual(unlike((strands, (strands - 1,)), (strands, ()))[0], strands - 1)

    def test_steps_lead_to_the_same(self):
        for strands, word in long_plaits()[::3]:
            one = (strands, word)
            for step, led in walk_from(strands, word, strands * 1000 + len(word), 30, 16):
                self.assertIs(alike(one, (strands, led)), True, step)
                self.assertIsNone(unlike((strands, led), one), step)
                self.assertIs(same_form(one, (strands, led)), True, step)

    def test_a_letter_more_is_never_the_same(self):
        for strands, word in long_plaits()[::2]:
            if len(word) < 16:
                for letter in letters_of(strands):
                    other = (strands, word[:7] + (letter,) + word[7:])
                    self.assertIs(alike((strands, word), other), False)
                    self.assertIs(same_form((strands, word), other), False)
                    self.assertIs(shows_unlike((strands, word), other, unlike((strands, word), other)), True)

    def test_another_letter_in_one_place_is_never_the_same(self):
        for strands, word in long_plaits()[::2]:
            for at in (0, 7, len(word) - 1):
                other = (strands, word[:at] + (-word[at],) + word[at + 1:])
                self.assertIs(alike((strands, word), other), False)
                self.assertIs(same_form((strands, word), other), False)

    def test_with_the_contrary_behind_it(self):
        for plait in small_plaits():
            self.assertIs(alike(behind(plait, turned(plait)), (plait[0], ())), True)
            self.assertIs(alike(behind(turned(plait), plait), (plait[0], ())), True)

    def test_refusals(self):
        refused_of_two(self, alike)
        refused_of_two(self, unlike)
        for paper in [(1, (1,), (1, 2, -1)), (0, (), ()), (HUGE, (HUGE,), ())]:
            refused_of_two(self, shows_unlike, paper)


class PaperTest(unittest.TestCase):
    """Point 23: papers that show that two plaits are unlike."""

    def test_what_unlike_tells_shows_it(self):
        for one, other, _ in UNLIKE:
            paper = unlike(one, other)
            self.assertIs(shows_unlike(one, other, paper), True)
            self.assertIs(shows_unlike(other, one, paper), False)
            self.assertIs(shows_unlike(other, one, (paper[0], paper[2], paper[1])), True)
            self.assertIs(shows_unlike(one, one, paper), False)

    def test_any_letter_of_which_they_make_unlike_words_shows_it(self):
        one = (3, (1, 2))
        other = (3, (2, 1))
        for j in (1, 2, 3):
            words = (image(one, j), image(other, j))
            self.assertIs(shows_unlike(one, other, (j, *words)), True)

    def test_words_that_are_not_unlike_show_nothing(self):
        one = (4, (1,))
        other = (4, (-1,))
        self.assertIs(shows_unlike(one, other, (3, (3,), (3,))), False)
        self.assertIs(shows_unlike(one, other, (4, (4,), (4,))), False)
        for one, other in SAME:
            for j in range(1, one[0] + 1):
                self.assertIs(shows_unlike(one, other, (j, image(one, j), image(other, j))), False)

    def test_words_that_they_do_not_make_show_nothing(self):
        one = (3, (1, 2))
        other = (3, (2, 1))
        words = (image(one, 1), image(other, 1))
        self.assertEqual(words, ((1, 2, 3, -2, -1), (1, 2, -1)))
        for j in (2, 3):
            self.assertIs(shows_unlike(one, other, (j, *words)), False)
        for wrong in [
            (), (0,), (1,), (1, 2, 3, -2), (2, 3, -2, -1), (1, 2, 3, -2, -1, 0), (1, 2, 3, -2, 1), (HUGE,), (-HUGE, 0),
            (1, -1, 1, 2, 3, -2, -1), (1, 2, 3, 3, -3, -2, -1), (1, 2, 3, -2, -1, 2, -2), (1, 2) * 2000,
        ]:
            self.assertIs(shows_unlike(one, other, (1, wrong, words[1])), False)
            self.assertIs(shows_unlike(one, other, (1, words[0], wrong)), False)
            self.assertIs(shows_unlike(one, other, (1, wrong, wrong)), False)

    def test_numbers_that_no_letter_has_show_nothing(self):
        one = (3, (1, 2))
        other = (3, (2, 1))
        for j in (-HUGE, -3, -2, -1, 0, 4, 5, 7, HUGE):
            for words in [(image(one, 1), image(other, 1)), (image(one, 3), image(other, 3)), ((j,), (1,)), ((1,), (j,))]:
                self.assertIs(shows_unlike(one, other, (j, *words)), False)

    def test_every_pair_of_words_for_every_letter(self):
        plaits = [plait for plait in small_plaits(2) if plait[0] == 3]
        made = [images(plait) for plait in plaits]
        for one, of_one in zip(plaits, made):
            for other, of_other in zip(plaits, made):
                for j in range(3):
                    wanted = of_one[j] != of_other[j]
                    self.assertIs(shows_unlike(one, other, (j + 1, of_one[j], of_other[j])), wanted)


class HandedInTest(unittest.TestCase):
    """Point 1."""

    def test_what_is_told_is_the_askers_own(self):
        for plait in [(1, ()), (4, (1, -2, 3)), (6, (5,) * 16)]:
            first = images(plait)
            wanted = list(first)
            self.assertIs(type(first), list)
            self.assertIsNot(images(plait), first)
            first.clear()
            self.assertEqual(images(plait), wanted)
            wanted.append(())
            self.assertEqual(images(plait), wanted[:-1])

    def test_what_is_told_is_plain(self):
        for plait in long_plaits():
            plain(self, tuple(images(plait)))
            plain(self, image(plait, 1))
            plain(self, unlike(plait, (plait[0], plait[1][:-1])))
        for word in free_words():
            plain(self, reduced(word))
            plain(self, joined(word, (1, 2)))

    def test_nothing_hangs_on_what_was_asked_before(self):
        one = (4, (1, -2, 3))
        other = (4, (3, -2, 1))
        paper = unlike(one, other)
        refused(self, NoNumber, image, one, 5)
        refused(self, NoPlait, alike, one, (4, (4,)))
        self.assertIs(shows_unlike(other, one, paper), False)
        self.assertEqual(unlike(one, other), paper)
        self.assertEqual((one, other), ((4, (1, -2, 3)), (4, (3, -2, 1))))


if __name__ == "__main__":
    unittest.main()
