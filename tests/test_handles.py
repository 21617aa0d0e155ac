"""Points 1, 43 and 44, and the interface's section loopwright/handles.py."""

import unittest

from helper import (
    FAR_NUMBERS, NO_PLAITS, SAME, UNLIKE, arguments_are, letters_of, long_plaits, plain, plain_steps, refused,
    refused_of_two, small_plaits, walk_from,
)
from loopwright import handles
from loopwright.errors import NoPlait, NoStep
from loopwright.form import same_form, word_of
from loopwright.handles import holds, sameness
from loopwright.letters import alike
from loopwright.plaits import turned
from loopwright.steps import walked

# The same plaits, by half twists, whole twists and contraries, though their words look nothing alike.
FAR_APART = [
    ((3, (1, 2, 1, 1)), (3, (2, 2, 1, -1, 1, 2))),
    ((3, (1, 2) * 6 + (-1, 2)), (3, (-1, 2) + (2, 1, 1) * 4)),
    ((3, (1, 1, 2, 1, 1, 2) * 2), (3, (2, 1, 2) * 4)),
    ((4, (1, 2, 3) * 4), (4, (3, 2, 1, 3, 2, 3) * 2)),
    ((4, (1, 2, 3) * 4), (4, (1, 1, 2, 1, 1, 2, 3, 2, 1, 1, 2, 3))),
    ((4, (1, 2, 1, 3, 2, 1, 1, 2, 3)), (4, (3, 2, 1, 3, 2, 1, 3, 2, 3))),
    ((5, word_of(5, (1, ())) + (1, -2, 3, 1, -2, 3)), (5, (4, -3, 2, 4, -3, 2) + word_of(5, (1, ()))[::-1])),
    ((6, (5, 4, 3, 2, 1, 2, 3, 4, 5)), (6, (1, 2, 3, 4, 5, 4, 3, 2, 1))),
    ((6, word_of(6, (1, ())) + (1,)), (6, (5,) + word_of(6, (1, ()))[::-1])),
    ((6, (-1,) + tuple(-x for x in word_of(6, (1, ())))), (6, word_of(6, (-1, ())) + (-5,))),
]

# Not the same, though their orders and the sums of their letters are.
NEARLY = [
    ((3, (1, 1, 2, 2, -1, -1, -2, -2)), (3, ())),
    ((3, (1, -2) * 3), (3, ())),
    ((4, (1, -2, 3, -1, 2, -3)), (4, (-1, 2, -3, 1, -2, 3))),
    ((4, (1, 2, 3) * 4), (4, (3, 2, 1) * 4 + (2, 2, -1, -1))),
    ((5, (1, -4) * 8), (5, (1, 1, -4, -4) * 3 + (2, -3, 2, -3))),
    ((6, (5, 5)), (6, (1, 1))),
]


def led_plainly(strands, word, paper):
    """The word to which steps lead, each looked for among all that can be done."""
    for step in paper:
        word = dict(plain_steps(strands, word, 4000))[step]
    return word


def whole_word(one, other):
    return one[1] + tuple(-letter for letter in reversed(other[1]))


class InterfaceTest(unittest.TestCase):
    def test_names_and_arguments(self):
        arguments_are(self, handles, {"sameness": ["one", "other"], "holds": ["one", "other", "steps"]})


class SamenessTest(unittest.TestCase):
    """Point 44."""

    def check_paper(self, one, other):
        paper = sameness(one, other)
        self.assertIs(type(paper), list)
        plain(self, tuple(paper))
        self.assertEqual(walked(one[0], whole_word(one, other), paper), ())
        self.assertIs(holds(one, other, paper), True)
        return paper

    def check_none(self, one, other):
        self.assertIsNone(sameness(one, other))
        self.assertIsNone(sameness(other, one))

    def test_plaits_that_are_the_same(self):
        for one, other in SAME + FAR_APART:
            self.assertIs(alike(one, other), True)
            for first, second in [(one, other), (other, one)]:
                paper = self.check_paper(first, second)
                self.assertEqual(led_plainly(first[0], whole_word(first, second), paper), ())

    def test_plaits_that_are_not_the_same(self):
        for one, other in [pair[:2] for pair in UNLIKE] + NEARLY:
            self.assertIs(alike(one, other), False)
            self.check_none(one, other)

    def test_without_letters(self):
        for strands in range(1, 7):
            self.assertEqual(sameness((strands, ()), (strands, ())), [])
            for letter in letters_of(strands):
                self.check_none((strands, (letter,)), (strands, ()))
                self.check_paper((strands, (letter, -letter)), (strands, ()))
                self.check_paper((strands, (letter, -letter) * 8), (strands, ()))
                self.check_paper((strands, (letter,) * 8 + (-letter,) * 8), (strands, (-letter, letter) * 8))

    def test_a_plait_with_itself(self):
        for plait in small_plaits(2) + long_plaits():
            self.check_paper(plait, plait)
            if plait[1]:
                self.check_none(plait, (plait[0], plait[1][:-1]))

    def test_sixteen_letters_without_any_in_common(self):
        for strands in range(2, 7):
            for letter in letters_of(strands):
                self.check_none((strands, (letter,) * 16), (strands, (-letter,) * 16))
                self.check_paper((strands, (letter,) * 16), (strands, (letter,) * 16))

    def test_just_where_the_plaits_are_the_same(self):
        for strands, most in ((2, 4), (3, 4), (4, 3)):
            plaits = [plait for plait in small_plaits(most) if plait[0] == strands]
            for one in plaits:
                for other in plaits[::strands]:
                    if alike(one, other):
                        self.check_paper(one, other)
                    else:
                        self.assertIsNone(sameness(one, other))

    def test_of_plaits_that_steps_lead_to_one_another(self):
        for strands, word in long_plaits()[::2]:
            row = walk_from(strands, word, 7 * strands + len(word), 60, 16)
            for _, led in row[4::5] + row[-1:]:
                self.assertIs(same_form((strands, word), (strands, led)), True)
                self.check_paper((strands, word), (strands, led))
                if strands > 2:
                    last = led[:-1] + (-led[-1],)
                    self.check_none((strands, word), (strands, last))

    def test_of_plaits_that_steps_lead_from_no_letters(self):
        for strands in range(2, 7):
            for seed in range(1, 12):
                for _, led in walk_from(strands, (), seed * strands, 80, 32)[39::10]:
                    half = len(led) // 2
                    self.check_paper((strands, led[:half]), turned((strands, led[half:])))

    def test_step_by_step(self):
        for strands, word in long_plaits()[::9]:
            led = walk_from(strands, word, strands, 40, 16)[-1][1]
            paper = sameness((strands, word), (strands, led))
            self.assertEqual(led_plainly(strands, whole_word((strands, word), (strands, led)), paper), ())

    def test_refusals(self):
        refused_of_two(self, sameness)


class HoldsTest(unittest.TestCase):
    """Point 43."""

    def test_papers_that_hold(self):
        self.assertIs(holds((1, ()), (1, ()), []), True)
        self.assertIs(holds((6, ()), (6, ()), []), True)
        self.assertIs(holds((2, (1,)), (2, (1,)), [("out", 0)]), True)
        self.assertIs(holds((4, (1, 3)), (4, (3, 1)), [("far", 2), ("out", 1), ("out", 0)]), True)
        self.assertIs(holds((4, (1, 3)), (4, (3, 1)), [("far", 0), ("out", 1), ("out", 0)]), True)
        three = [("three", 0), ("out", 2), ("out", 1), ("out", 0)]
        self.assertIs(holds((3, (1, 2, 1)), (3, (2, 1, 2)), three), True)
        self.assertIs(holds((3, (2, 1, 2)), (3, (1, 2, 1)), three), True)

    def test_the_second_one_is_turned_and_behind(self):
        one = (4, (1, 2, 3))
        other = (4, (1, 3, -3, 2, 3))
        self.assertIs(holds(one, other, [("out", 2), ("out", 1), ("out", 1), ("out", 0)]), True)
        self.assertIs(holds(other, one, [("out", 2), ("out", 1), ("out", 1), ("out", 0)]), False)
        self.assertIs(holds(other, one, [("out", 1), ("out", 2), ("out", 1), ("out", 0)]), True)
        self.assertIs(holds(one, turned(one), [("out", 2), ("out", 1), ("out", 0)]), False)

    def test_whatever_the_steps(self):
        one = (4, (1, 3))
        paper = [("far", 0), ("out", 1), ("out", 0)]
        for more in ([("in", 0, 2), ("out", 0)], [("in", 4, -3), ("far", 0), ("far", 0), ("out", 4)]):
            self.assertIs(holds(one, (4, (3, 1)), more + paper), True)
        self.assertIs(holds(one, (4, (3, 1)), paper + [("in", 0, 2), ("out", 0)] * 500), True)
        up = [("in", at, 1) for at in range(1998)]
        down = [("out", at) for at in range(1997, -1, -1)]
        self.assertIs(holds(one, (4, (3, 1)), up + down + paper), True)
        self.assertIs(holds(one, (4, (3, 1)), paper + up + [("in", 1998, 1), ("in", 0, 1), ("out", 0)]), False)
        self.assertIs(holds(one, (4, (3, 1)), up + [("in", 0, 1), ("out", 0)] + down + paper), False)

    def test_papers_that_lead_elsewhere(self):
        one = (3, (1, 2, 1))
        other = (3, (2, 1, 2))
        paper = [("three", 0), ("out", 2), ("out", 1), ("out", 0)]
        for many in range(4):
            self.assertIs(holds(one, other, paper[:many]), False)
        self.assertIs(holds(one, other, paper + [("in", 0, 2)]), False)
        self.assertIs(holds((2, (1,)), (2, (1,)), []), False)
        self.assertIs(holds((2, (1,)), (2, (-1,)), []), False)
        self.assertIs(holds((2, (1,)), (2, ()), []), False)
        self.assertIs(holds((2, ()), (2, (1,)), []), False)
        self.assertIs(holds((3, (1,)), (3, (2,)), []), False)

    def test_papers_in_which_a_step_can_not_be_done(self):
        one = (3, (1, 2, 1))
        other = (3, (2, 1, 2))
        paper = [("three", 0), ("out", 2), ("out", 1), ("out", 0)]
        wrong = [
            ("far", 0), ("three", 4), ("out", -1), ("in", 0, 3), ("in", 0, 0), ("in", 7, 1), ("in", -1, 1), ("far",), (),
            ("round",), ("Out", 0), ("out", 0, 1), ("in", 0),
        ]
        wrong += [(kind, far) for kind in ("far", "three", "out") for far in FAR_NUMBERS]
        wrong += [("in", far, 1) for far in FAR_NUMBERS] + [("in", 0, far) for far in FAR_NUMBERS]
        for step in wrong:
            for at in range(5):
                self.assertIs(holds(one, other, paper[:at] + [step] + paper[at:]), False)
            self.assertIs(holds((1, ()), (1, ()), [step]), False)

    def test_steps_left_out_or_in_another_order(self):
        for one, other in FAR_APART:
            paper = sameness(one, other)
            for at in range(len(paper)):
                less = paper[:at] + paper[at + 1:]
                self.assertIs(holds(one, other, less), False)
            self.assertIs(holds(one, other, list(reversed(paper))), False)

    def test_no_paper_holds_of_plaits_that_are_not_the_same(self):
        for one, other in [pair[:2] for pair in UNLIKE] + NEARLY:
            for paper in ([], [("out", 0)], sameness(one, one), sameness(other, other), sameness(other, other) * 2):
                self.assertIs(holds(one, other, paper), False)

    def test_refusals(self):
        for paper in ([], [("out", 0)], [("far", -1)], [("in", 0, 9)], [()]):
            refused_of_two(self, holds, paper)

    def test_no_plait_is_refused_ahead_of_unlike_strands(self):
        for wrong in NO_PLAITS:
            for strands in range(1, 7):
                refused(self, NoPlait, sameness, (strands, ()), wrong)
                refused(self, NoPlait, sameness, wrong, (strands, ()))
                refused(self, NoPlait, holds, (strands, ()), wrong, [("out", 0)])
        for far in FAR_NUMBERS:
            refused(self, NoPlait, sameness, (far, ()), (far, ()))
            refused(self, NoPlait, holds, (3, (1, far)), (3, ()), [])
            refused(self, NoPlait, sameness, (2, ()), (3, (far,)))
        refused(self, NoStep, sameness, (2, (1,)), (3, (1,)))
        refused(self, NoStep, holds, (2, ()), (3, ()), [])


class HandedInTest(unittest.TestCase):
    """Point 1."""

    def test_what_is_told_is_the_askers_own(self):
        for one, other in SAME + FAR_APART:
            first = sameness(one, other)
            wanted = list(first)
            self.assertIsNot(sameness(one, other), first)
            first.append(("out", 0))
            first.reverse()
            self.assertEqual(sameness(one, other), wanted)
            self.assertIs(holds(one, other, wanted), True)

    def test_what_is_handed_in_stays_and_is_not_kept(self):
        one = (4, (1, 3))
        other = (4, (3, 1))
        paper = [("far", 0), ("out", 1), ("out", 0)]
        self.assertIs(holds(one, other, paper), True)
        self.assertEqual(paper, [("far", 0), ("out", 1), ("out", 0)])
        paper.pop()
        self.assertIs(holds(one, other, paper), False)
        paper.append(("out", 1))
        self.assertIs(holds(one, other, paper), False)
        self.assertEqual(paper, [("far", 0), ("out", 1), ("out", 1)])
        paper[2] = ("out", 0)
        self.assertIs(holds(one, other, paper), True)

    def test_nothing_is_left_by_a_refusal(self):
        one = (3, (1, 2, 1))
        other = (3, (2, 1, 2))
        first = sameness(one, other)
        refused(self, NoStep, sameness, one, (4, ()))
        refused(self, NoPlait, holds, one, (3, (3,)), first)
        self.assertIs(holds(one, other, first + [("far", 0)]), False)
        self.assertEqual(sameness(one, other), first)


if __name__ == "__main__":
    unittest.main()
