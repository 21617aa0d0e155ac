"""Papers of sameness: steps that lead one plait, with the other one turned behind it, to no letters.

A handle is a letter, later on its contrary, and between both no letter with their number or the one below. Its
first letter can be led through all between, which leaves letters with greater numbers behind, till it meets its
contrary. Where always the handle that ends first is taken away so, this comes to an end; and a word without any
handle is the plait of no letters only where it has none.
"""

from loopwright.errors import NoRoom, NoStep
from loopwright.letters import alike
from loopwright.plaits import contrary, looked_both
from loopwright.steps import signed, walked


def begin_of_handle(word, end):
    """Tell where the handle begins that ends at a place; None where none ends there."""
    number = abs(word[end])
    at = end - 1
    while at >= 0 and abs(word[at]) not in (number - 1, number):
        at -= 1
    if at >= 0 and word[at] == -word[end]:
        return at
    return None


def steps_through(word, begin, end):
    """Tell the steps that lead a handle's first letter through all letters between, and both ends out."""
    letter = word[begin]
    steps = []
    at = begin
    for other in word[begin + 1:end]:
        if abs(other) == abs(letter) + 1:
            # Behind such a letter with its own sign, and ahead of the other one, three can be exchanged.
            steps.append(("in", at, signed(other, -letter)))
            steps.append(("three", at + 1))
            at += 3
        else:
            steps.append(("far", at))
            at += 1
    steps.append(("out", at))
    return steps


def sameness(one, other):
    """Tell a paper of sameness of two plaits; None where they aren't the same."""
    if not alike(one, other):
        return None
    word = one[1] + contrary(other[1])
    paper = []
    end = 0
    while word:
        begin = begin_of_handle(word, end)
        if begin is None:
            end += 1
        else:
            steps = steps_through(word, begin, end)
            word = walked(one[0], word, steps)
            paper.extend(steps)
            # All ahead of the handle stays as it was, so no handle ends there.
            end = begin
    return paper


def holds(one, other, steps):
    """Tell whether a list of steps is a paper of sameness of two plaits."""
    looked_both(one, other)
    try:
        word = walked(one[0], one[1] + contrary(other[1]), steps)
    except (NoStep, NoRoom):
        return False
    return word == ()
