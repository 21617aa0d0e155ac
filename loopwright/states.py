"""States of closed plaits, and the sums over them: state by state, or letter by letter by nests.

A nest tells what is joined by the letters so far where each was taken away in one of the two ways: the ends above
are numbered from 0, those beneath go on behind them, and at each end's place stands the one that it is joined to.
"""

from loopwright.errors import NoRoom
from loopwright.loops import sign_of, turns
from loopwright.plaits import looked
from loopwright.sums import NOUGHT, ONE, added, multiplied

MOST_LETTERS_BY_STATES = 10

# What a state's worth is multiplied by for a loop.
LOOP = ((-2, -1), (2, -1))


def loop_worths(most):
    """Tell by numbers of loops, from 0 up to the most, what stands for all of them but one; none for none."""
    worths = [NOUGHT, ONE]
    while len(worths) <= most:
        worths.append(multiplied(worths[-1], LOOP))
    return worths


def states_of(word):
    """Tell all states: the power that comes of the letters, and the hooked ones' numbers, from first to last."""
    states = [(0, ())]
    for letter in word:
        sign = sign_of(letter)
        straight = [(power + sign, hooked) for power, hooked in states]
        states = straight + [(power - sign, hooked + (abs(letter),)) for power, hooked in states]
    return states


def as_one(marks, one, other):
    """Give all pieces with the mark of the other one the mark of the one."""
    return [marks[one] if mark == marks[other] else mark for mark in marks]


def loops_of_state(strands, hooked):
    """Count the loops of a state by the numbers of its hooked letters."""
    # At first each strand is a piece of its own; where two are joined, both get one mark.
    marks = list(range(strands))
    standing = list(range(strands))
    for number in hooked:
        marks = as_one(marks, standing[number - 1], standing[number])
        standing[number - 1] = len(marks)
        standing[number] = len(marks)
        marks.append(len(marks))
    for place in range(strands):
        marks = as_one(marks, place, standing[place])
    return len(set(marks))


def by_states(plait):
    """Tell the sum over states, state by state."""
    letters = looked(plait)
    if letters > MOST_LETTERS_BY_STATES:
        raise NoRoom("there are more than 10 letters")
    worths = loop_worths(plait[0] + letters)
    whole = NOUGHT
    for power, hooked in states_of(plait[1]):
        loops = worths[loops_of_state(plait[0], hooked)]
        whole = added(whole, multiplied(((power, 1),), loops))
    return whole


def plain_nest(strands):
    """Tell the nest in which each end above is joined to the one beneath it."""
    return tuple(range(strands, 2 * strands)) + tuple(range(strands))


def makes_loop(nest, number):
    """Tell whether a hooked letter behind a nest closes a loop."""
    below = len(nest) // 2 + number
    return nest[below] == below - 1


def with_hook(nest, number):
    """Put a hooked letter behind a nest that it closes no loop with."""
    below = len(nest) // 2 + number
    joined = list(nest)
    joined[nest[below - 1]] = nest[below]
    joined[nest[below]] = nest[below - 1]
    joined[below - 1] = below
    joined[below] = below - 1
    return tuple(joined)


def put_in(worths, nest, worth):
    """Add what a nest is worth to what stands for it so far."""
    worths[nest] = added(worths.get(nest, NOUGHT), worth)


def with_letter(worths, letter):
    """Tell by nests what they are worth with a letter more behind them."""
    sign = sign_of(letter)
    found = {}
    for nest, worth in worths.items():
        put_in(found, nest, multiplied(worth, ((sign, 1),)))
        hooked = multiplied(worth, ((-sign, 1),))
        if makes_loop(nest, abs(letter)):
            put_in(found, nest, multiplied(hooked, LOOP))
        else:
            put_in(found, with_hook(nest, abs(letter)), hooked)
    return found


def loops_of_nest(nest):
    """Count the loops of a nest when each end beneath is joined to the one above it."""
    strands = len(nest) // 2
    seen = {}
    loops = 0
    for begin in range(strands):
        if begin not in seen:
            loops += 1
        at = begin
        while at not in seen:
            seen[at] = True
            seen[nest[at]] = True
            # From an end above to the one beneath it, or back.
            at = (nest[at] + strands) % len(nest)
    return loops


def by_nests(plait):
    """Tell the sum over states, letter by letter."""
    looked(plait)
    worths = {plain_nest(plait[0]): ONE}
    for letter in plait[1]:
        worths = with_letter(worths, letter)
    loops = loop_worths(plait[0])
    whole = NOUGHT
    for nest, worth in worths.items():
        whole = added(whole, multiplied(worth, loops[loops_of_nest(nest)]))
    return whole


def settled(plait):
    """Tell the sum over states so that each move of the loops keeps it."""
    whole = by_nests(plait)
    many = turns(plait)
    count = 1 if many % 2 == 0 else -1
    return multiplied(whole, ((-3 * many, count),))
