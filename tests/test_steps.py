"""Points 1 and 40 to 42, and the interface's section loopwright/steps.py."""

import unittest
from itertools import product

from helper import (
    HUGE, NO_WORDS, THREES, all_plaits, arguments_are, letters_of, long_plaits, plain, plain_images, plain_steps, refused,
    small_plaits, walk_from,
)
from loopwright import steps
from loopwright.errors import NoPlait, NoRoom, NoStep
from loopwright.form import form_by
from loopwright.steps import choices, stepped, walked

# None of these can be done with any word.
NEVER = [
    ("far", -1), ("three", -1), ("out", -1), ("far", -2), ("three", -3), ("out", -2), ("far", HUGE), ("three", -HUGE),
    ("out", HUGE), ("in", -1, 1), ("in", -HUGE, 1), ("in", HUGE, 1), ("in", 0, 0), ("in", 0, 6), ("in", 0, -6),
    ("in", 0, HUGE), ("in", 0, -HUGE), ("in", 4001, 1),
]

NO_KINDS = [
    (), ("far",), ("in",), ("in", 0), ("far", 0, 1), ("out", 0, 1), ("three", 0, 0), ("in", 0, 1, -1), ("", 0), ("Far", 0),
    ("near", 0), ("in ", 0, 1), ("round",), ("step", 0, 1), ("far", 0, 0, 0),
]


def words_of_4000():
    """Words with as many letters as there may be, made by a fixed rule."""
    words = [(2, (1,) * 4000), (2, (1, -1) * 2000), (6, (1, 3, 5, 3) * 1000), (3, (1, 2, 1, 2) * 1000)]
    for strands in (4, 6):
        letters = letters_of(strands)
        for pace in (1, 3):
            words.append((strands, tuple(letters[(pace * at * at + at // 3) % len(letters)] for at in range(4000))))
    return words


class InterfaceTest(unittest.TestCase):
    def test_names_and_arguments(self):
        arguments_are(self, steps, {
            "stepped": ["strands", "word", "step"], "walked": ["strands", "word", "steps"],
            "choices": ["strands", "word"],
        })


class FarTest(unittest.TestCase):
    """Point 40: far."""

    def test_letters_that_change_places(self):
        self.assertEqual(stepped(4, (1, 3), ("far", 0)), (3, 1))
        self.assertEqual(stepped(4, (3, -1), ("far", 0)), (-1, 3))
        self.assertEqual(stepped(6, (-5, -1), ("far", 0)), (-1, -5))
        self.assertEqual(stepped(6, (2, 5, 1, 2), ("far", 1)), (2, 1, 5, 2))
        self.assertEqual(stepped(6, (2, 1, 5, 2), ("far", 2)), (2, 1, 2, 5))

    def test_each_two_letters(self):
        for p, q in product(letters_of(6), repeat=2):
            for ahead, rest in [((), ()), ((1, 2), ()), ((), (3,)), ((4,), (-5, 1))]:
                word = ahead + (p, q) + rest
                if abs(abs(p) - abs(q)) >= 2:
                    self.assertEqual(stepped(6, word, ("far", len(ahead))), ahead + (q, p) + rest)
                else:
                    refused(self, NoStep, stepped, 6, word, ("far", len(ahead)))

    def test_places(self):
        word = (1, 3, 1, 3)
        for at, wanted in [(0, (3, 1, 1, 3)), (1, (1, 1, 3, 3)), (2, (1, 3, 3, 1))]:
            self.assertEqual(stepped(4, word, ("far", at)), wanted)
        for at in (-HUGE, -5, -4, -3, -2, -1, 3, 4, 5, HUGE):
            refused(self, NoStep, stepped, 4, word, ("far", at))
        for word in [(), (1,), (3,)]:
            for at in (-2, -1, 0, 1):
                refused(self, NoStep, stepped, 4, word, ("far", at))


class ThreeTest(unittest.TestCase):
    """Point 40: three."""

    def test_letters_that_are_exchanged(self):
        self.assertEqual(stepped(3, (1, 2, 1), ("three", 0)), (2, 1, 2))
        self.assertEqual(stepped(3, (2, 1, 2), ("three", 0)), (1, 2, 1))
        self.assertEqual(stepped(3, (-1, -2, -1), ("three", 0)), (-2, -1, -2))
        self.assertEqual(stepped(3, (1, 2, -1), ("three", 0)), (-2, 1, 2))
        self.assertEqual(stepped(3, (-2, 1, 2), ("three", 0)), (1, 2, -1))
        self.assertEqual(stepped(6, (1, -5, -4, 5, 3), ("three", 1)), (1, 4, -5, -4, 3))
        for word in [(1, -2, 1), (-1, 2, -1), (2, -1, 2), (1, 2, 2), (1, 1, 1), (1, -1, 1), (1, 3, 1), (1, 2, 3)]:
            refused(self, NoStep, stepped, 4, word, ("three", 0))

    def test_each_three_letters(self):
        for three in product(letters_of(6), repeat=3):
            for ahead, rest in [((), ()), ((1, 2), (2, -1, 3))]:
                word = ahead + three + rest
                step = ("three", len(ahead))
                if three in THREES:
                    led = stepped(6, word, step)
                    self.assertEqual(led, ahead + THREES[three] + rest)
                    self.assertEqual(plain_images(6, led), plain_images(6, word))
                else:
                    refused(self, NoStep, stepped, 6, word, step)

    def test_places(self):
        word = (1, 2, 1, 2, 1)
        for at, wanted in [(0, (2, 1, 2, 2, 1)), (1, (1, 1, 2, 1, 1)), (2, (1, 2, 2, 1, 2))]:
            self.assertEqual(stepped(3, word, ("three", at)), wanted)
        for at in (-HUGE, -6, -5, -4, -3, -2, -1, 3, 4, 5, 6, HUGE):
            refused(self, NoStep, stepped, 3, word, ("three", at))
        for word in [(), (1,), (1, 2)]:
            for at in (-3, -2, -1, 0, 1):
                refused(self, NoStep, stepped, 3, word, ("three", at))


class OutTest(unittest.TestCase):
    """Point 40: out."""

    def test_letters_that_go(self):
        self.assertEqual(stepped(2, (1, -1), ("out", 0)), ())
        self.assertEqual(stepped(2, (-1, 1), ("out", 0)), ())
        self.assertEqual(stepped(6, (5, -2, 2, 1), ("out", 1)), (5, 1))
        self.assertEqual(stepped(2, (1, -1, 1), ("out", 0)), (1,))
        self.assertEqual(stepped(2, (1, -1, 1), ("out", 1)), (1,))

    def test_each_two_letters(self):
        for p, q in product(letters_of(6), repeat=2):
            for ahead, rest in [((), ()), ((1, 2), ()), ((), (3,)), ((4,), (-5, 1))]:
                word = ahead + (p, q) + rest
                if p == -q:
                    self.assertEqual(stepped(6, word, ("out", len(ahead))), ahead + rest)
                else:
                    refused(self, NoStep, stepped, 6, word, ("out", len(ahead)))

    def test_places(self):
        word = (1, -1, 2, -2)
        self.assertEqual(stepped(3, word, ("out", 0)), (2, -2))
        self.assertEqual(stepped(3, word, ("out", 2)), (1, -1))
        for at in (-HUGE, -5, -4, -3, -2, -1, 1, 3, 4, 5, HUGE):
            refused(self, NoStep, stepped, 3, word, ("out", at))
        # The last letter and the first one don't stand beside one another.
        for at in (-1, 1, 2):
            refused(self, NoStep, stepped, 3, (1, 2, -1), ("out", at))
        for word in [(), (1,)]:
            for at in (-2, -1, 0, 1):
                refused(self, NoStep, stepped, 3, word, ("out", at))


class InTest(unittest.TestCase):
    """Point 40: in."""

    def test_places(self):
        self.assertEqual(stepped(2, (), ("in", 0, 1)), (1, -1))
        self.assertEqual(stepped(2, (), ("in", 0, -1)), (-1, 1))
        self.assertEqual(stepped(4, (1, 3), ("in", 0, 2)), (2, -2, 1, 3))
        self.assertEqual(stepped(4, (1, 3), ("in", 1, -2)), (1, -2, 2, 3))
        self.assertEqual(stepped(4, (1, 3), ("in", 2, 3)), (1, 3, 3, -3))
        for at in (-HUGE, -3, -2, -1, 3, 4, HUGE):
            refused(self, NoStep, stepped, 4, (1, 3), ("in", at, 1))
        for at in (-1, 1, 2):
            refused(self, NoStep, stepped, 4, (), ("in", at, 1))

    def test_letters(self):
        for strands in range(1, 7):
            for letter in list(range(-8, 9)) + [HUGE, -HUGE]:
                if letter in letters_of(strands):
                    self.assertEqual(stepped(strands, (), ("in", 0, letter)), (letter, -letter))
                else:
                    refused(self, NoStep, stepped, strands, (), ("in", 0, letter))

    def test_room(self):
        for strands in (2, 6):
            full = (strands - 1,) * 3998
            for at in (0, 1, 2000, 3997, 3998):
                self.assertEqual(stepped(strands, full, ("in", at, -1)), full[:at] + (-1, 1) + full[at:])
            for letters in (3999, 4000):
                word = (1,) * letters
                for at in (0, 1, 2000, letters - 1, letters):
                    refused(self, NoRoom, stepped, strands, word, ("in", at, 1))
                    refused(self, NoRoom, stepped, strands, word, ("in", at, 1 - strands))

    def test_what_can_not_be_done_is_refused_ahead_of_room(self):
        for letters in (3999, 4000):
            for step in [
                ("in", -1, 1), ("in", letters + 1, 1), ("in", HUGE, 1), ("in", 0, 0), ("in", 0, 3), ("in", letters, -3),
                ("in", -HUGE, HUGE), ("in", letters + 1, 0),
            ]:
                refused(self, NoStep, stepped, 3, (1,) * letters, step)


class SteppedTest(unittest.TestCase):
    """Points 40 to 42, of all steps."""

    def test_all_that_can_be_done_is_done_so(self):
        for strands, word in all_plaits()[::5]:
            for step, led in plain_steps(strands, word, 18):
                self.assertEqual(stepped(strands, word, step), led)

    def test_all_else_is_refused(self):
        for strands, word in small_plaits(3)[::3] + long_plaits()[::5]:
            can = {step for step, _ in plain_steps(strands, word, 20)}
            for at in range(-len(word) - 3, len(word) + 4):
                for kind in ("far", "three", "out"):
                    if (kind, at) not in can:
                        refused(self, NoStep, stepped, strands, word, (kind, at))
                for letter in range(-strands - 1, strands + 2):
                    if ("in", at, letter) not in can:
                        refused(self, NoStep, stepped, strands, word, ("in", at, letter))

    def test_steps_that_can_never_be_done(self):
        for strands in range(1, 7):
            letters = letters_of(strands)
            for word in ((), tuple(letters), tuple(letters[:1] * 5), (1, 2, 1, 5, -5) if strands == 6 else ()):
                for step in NEVER + NO_KINDS:
                    refused(self, NoStep, stepped, strands, word, step)
                    refused(self, NoStep, walked, strands, word, [step])
        refused(self, NoStep, stepped, 1, (), ("in", 0, 1))

    def test_words_of_four_thousand_letters(self):
        for strands, word in words_of_4000():
            found = plain_steps(strands, word, 4000)
            for step, led in found[:3] + found[::199] + found[-3:]:
                self.assertEqual(stepped(strands, word, step), led)
            can = {step for step, _ in found}
            for kind, at in product(("far", "three", "out"), (-4000, -1, 0, 1, 3996, 3997, 3998, 3999, 4000)):
                if (kind, at) not in can:
                    refused(self, NoStep, stepped, strands, word, (kind, at))

    def test_each_can_be_taken_back_by_a_step(self):
        for strands, word in small_plaits(3)[::4] + long_plaits()[::7]:
            for step, led in plain_steps(strands, word, 18):
                back = step[:2]
                if step[0] == "out":
                    back = ("in", step[1], word[step[1]])
                if step[0] == "in":
                    back = ("out", step[1])
                self.assertEqual(stepped(strands, stepped(strands, word, step), back), word)

    def test_words_do_the_same_to_all_letters(self):
        for strands, word in small_plaits(3)[::4] + long_plaits()[::11]:
            wanted = plain_images(strands, word)
            for step, _ in plain_steps(strands, word, 18)[::3]:
                self.assertEqual(plain_images(strands, stepped(strands, word, step)), wanted)


class WalkedTest(unittest.TestCase):
    """Points 40 and 41: a row of steps."""

    def test_ordinary_rows(self):
        self.assertEqual(walked(3, (1, 2), []), (1, 2))
        self.assertEqual(walked(1, (), []), ())
        self.assertEqual(walked(4, (1, 3), [("far", 0)]), (3, 1))
        self.assertEqual(walked(3, (1, 2, -1, -2), [("three", 0), ("out", 2)]), (-2, 1))
        self.assertEqual(walked(3, (1, 2, 1, -2), [("three", 0), ("out", 2)]), (2, 1))
        self.assertEqual(walked(4, (), [("in", 0, 1), ("in", 1, 3), ("far", 0), ("far", 2), ("out", 1)]), (3, -3))

    def test_a_row_back_to_no_letters(self):
        row = [("three", 0), ("out", 2), ("out", 1), ("out", 0)]
        wanted = [(2, 1, 2, -2, -1, -2), (2, 1, -1, -2), (2, -2), ()]
        for many in range(4):
            self.assertEqual(walked(3, (1, 2, 1, -2, -1, -2), row[:many + 1]), wanted[many])

    def test_long_rows(self):
        for strands, word in long_plaits()[::4]:
            row = walk_from(strands, word, strands + len(word), 120, 60)
            self.assertEqual(walked(strands, word, [step for step, _ in row]), row[-1][1])
            self.assertEqual(form_by(strands, row[-1][1]), form_by(strands, word))
            for many in (1, 2, 50, 119):
                self.assertEqual(walked(strands, word, [step for step, _ in row[:many]]), row[many - 1][1])

    def test_up_to_four_thousand_letters_and_back(self):
        up = [("in", at, 1) for at in range(2000)]
        self.assertEqual(walked(2, (), up), (1,) * 2000 + (-1,) * 2000)
        down = [("out", at) for at in range(1999, -1, -1)]
        self.assertEqual(walked(2, (), up + down), ())
        refused(self, NoRoom, walked, 2, (), up + [("in", 0, 1)] + down)
        refused(self, NoRoom, walked, 2, (), up + [("in", 4000, -1)])
        refused(self, NoStep, walked, 2, (), up + [("in", 4001, -1)])
        refused(self, NoStep, walked, 2, (), up + [("in", 4000, 2)])

    def test_the_first_step_that_is_refused_tells(self):
        full = (1,) * 3998
        fill = ("in", 0, 1)
        bad = ("far", 0)
        refused(self, NoRoom, walked, 3, full, [fill, fill, bad])
        refused(self, NoStep, walked, 3, full, [fill, bad, fill])
        refused(self, NoStep, walked, 3, full, [bad, fill, fill])
        refused(self, NoRoom, walked, 3, full, [fill, ("out", 0), fill, fill, bad])
        self.assertEqual(walked(3, full, [fill, ("out", 0), fill]), (1, -1) + full)

    def test_a_later_step_that_is_refused(self):
        word = (1, 3, 1, -1)
        good = [("far", 0), ("out", 2), ("in", 2, 2)]
        self.assertEqual(walked(4, word, good), (3, 1, 2, -2))
        for at in range(4):
            for bad in [("three", 0), ("out", 0), ("far", -1), ("in", 0, 4), ("in", 5, 1), ("sideways", 0)]:
                refused(self, NoStep, walked, 4, word, good[:at] + [bad] + good[at:])
        # What could be done with the first word can't be done with a later one.
        refused(self, NoStep, walked, 4, word, [("out", 2), ("out", 2)])
        refused(self, NoStep, walked, 4, word, [("out", 2), ("far", 1)])


class ChoicesTest(unittest.TestCase):
    """The interface's choices."""

    def test_ordinary_words(self):
        self.assertEqual(choices(1, ()), [])
        self.assertEqual(choices(6, ()), [])
        self.assertEqual(choices(6, (5,)), [])
        self.assertEqual(choices(4, (1, 3)), [("far", 0)])
        self.assertEqual(choices(3, (1, 2, 1)), [("three", 0)])
        self.assertEqual(choices(2, (1, -1, 1)), [("out", 0), ("out", 1)])
        self.assertEqual(choices(3, (1, -2, 1)), [])

    def test_far_comes_first_then_three_then_out(self):
        self.assertEqual(
            choices(4, (2, -2, 1, 2, 1, 3, -1, 2, -1)),
            [("far", 4), ("far", 5), ("three", 1), ("three", 2), ("out", 0)],
        )
        self.assertEqual(
            choices(6, (1, -1, 4, 5, 4, 1, 2, -1, 5, -5)),
            [("far", 1), ("far", 4), ("far", 7), ("three", 2), ("three", 5), ("out", 0), ("out", 8)],
        )

    def test_just_those_that_can_be_done(self):
        for strands, word in all_plaits():
            wanted = [step for step, _ in plain_steps(strands, word, 0)]
            self.assertEqual(choices(strands, word), wanted)

    def test_each_is_taken_by_stepped_and_no_other_is(self):
        for strands, word in long_plaits()[::3]:
            found = choices(strands, word)
            for kind in ("far", "three", "out"):
                for at in range(-2, 20):
                    if (kind, at) in found:
                        stepped(strands, word, (kind, at))
                    else:
                        refused(self, NoStep, stepped, strands, word, (kind, at))

    def test_words_of_four_thousand_letters(self):
        for strands, word in words_of_4000():
            self.assertEqual(choices(strands, word), [step for step, _ in plain_steps(strands, word, 0)])
        self.assertEqual(choices(2, (1, -1) * 2000), [("out", at) for at in range(3999)])
        self.assertEqual(choices(2, (1,) * 4000), [])


class NoPlaitTest(unittest.TestCase):
    """Point 41: what is refused ahead of all."""

    def refused_by_all(self, strands, word):
        refused(self, NoPlait, choices, strands, word)
        refused(self, NoPlait, walked, strands, word, [])
        for step in [("far", 0), ("three", 0), ("out", 0), ("in", 0, 1)] + NEVER + NO_KINDS:
            refused(self, NoPlait, stepped, strands, word, step)
        refused(self, NoPlait, walked, strands, word, [("out", 0), ("in", 0, 1), ("far", -1)])

    def test_what_is_no_word(self):
        for strands, word in NO_WORDS:
            self.refused_by_all(strands, word)

    def test_letters_in_any_place(self):
        for at in (0, 1, 100, 3998, 3999):
            for wrong in (0, 3, -3, HUGE):
                self.refused_by_all(3, (1,) * at + (wrong,) + (-1,) * (3999 - at))

    def test_words_that_are_too_long(self):
        for strands in (2, 3, 6):
            self.refused_by_all(strands, (1, -1) * 2000 + (1,))
            self.refused_by_all(strands, (1,) * 4001)
            self.refused_by_all(strands, (1,) * 5000)
        self.refused_by_all(1, (1,) * 4001)
        self.refused_by_all(7, (6,) * 4001)

    def test_words_longer_than_plaits_are_taken(self):
        for letters in (16, 17, 500, 501, 4000):
            self.assertEqual(stepped(6, (1, 3) + (5,) * (letters - 2), ("far", 0)), (3, 1) + (5,) * (letters - 2))


class HandedInTest(unittest.TestCase):
    """Point 1."""

    def test_what_is_handed_in_stays_and_is_not_kept(self):
        row = [("in", 0, 1), ("far", 1)]
        self.assertEqual(walked(4, (3,), row), (1, 3, -1))
        self.assertEqual(row, [("in", 0, 1), ("far", 1)])
        row.append(("far", 1))
        self.assertEqual(walked(4, (3,), row), (1, -1, 3))
        row.clear()
        self.assertEqual(walked(4, (3,), row), (3,))

    def test_what_is_told_is_the_askers_own(self):
        for strands, word in [(6, ()), (4, (1, 3, -3)), (3, (1, 2, 1, -1))]:
            first = choices(strands, word)
            wanted = list(first)
            self.assertIs(type(first), list)
            self.assertIsNot(choices(strands, word), first)
            first.append(("out", 0))
            self.assertEqual(choices(strands, word), wanted)
            wanted.clear()
            self.assertEqual(choices(strands, word), first[:-1])

    def test_what_is_told_is_plain(self):
        for strands, word in long_plaits()[::5]:
            plain(self, tuple(choices(strands, word)))
            for step in choices(strands, word):
                plain(self, stepped(strands, word, step))
                plain(self, walked(strands, word, [("in", 0, 1), ("out", 0), step]))

    def test_nothing_is_left_by_a_refusal(self):
        refused(self, NoStep, walked, 4, (1, 3), [("far", 0), ("far", 1)])
        refused(self, NoRoom, stepped, 4, (1,) * 4000, ("in", 0, 1))
        self.assertEqual(walked(4, (1, 3), [("far", 0)]), (3, 1))


if __name__ == "__main__":
    unittest.main()
