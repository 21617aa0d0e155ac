"""What plaits make of letters: free words, tuples of whole numbers that are not nought."""

from loopwright.errors import NoNumber
from loopwright.plaits import contrary, looked, looked_both, without_pairs


def reduced(word):
    """Take letters beside their contraries out of a free word till there are none."""
    return without_pairs(word)


def joined(one, other):
    """Put the other free word behind the one, reduced."""
    return without_pairs(one + other)


def made_by_letter(letter):
    """Tell the free words that a letter of a plait makes of letters and contraries; all others stay."""
    i = abs(letter)
    if letter > 0:
        first = (i, i + 1, -i)
        second = (i,)
    else:
        first = (i + 1,)
        second = (-(i + 1), i, i + 1)
    return {i: first, i + 1: second, -i: contrary(first), -(i + 1): contrary(second)}


def made_by_word(word, j):
    """Tell what the letters of a plait, one behind the other, make of x_j."""
    free = (j,)
    for letter in word:
        made = made_by_letter(letter)
        letters = []
        for x in free:
            letters.extend(made.get(x, (x,)))
        free = without_pairs(letters)
    return free


def image(plait, j):
    """Tell what a plait makes of x_j, j from 1 to its strands."""
    looked(plait)
    if not 1 <= j <= plait[0]:
        raise NoNumber("no number from 1 to the strands")
    return made_by_word(plait[1], j)


def images(plait):
    """Tell what a plait makes of x_1, of x_2, and so on to the last one."""
    looked(plait)
    return [made_by_word(plait[1], j) for j in range(1, plait[0] + 1)]


def unlike(one, other):
    """Tell the least j of which two plaits make unlike words, and both words; None where they are the same."""
    looked_both(one, other)
    for j in range(1, one[0] + 1):
        of_one = made_by_word(one[1], j)
        of_other = made_by_word(other[1], j)
        if of_one != of_other:
            return (j, of_one, of_other)
    return None


def alike(one, other):
    """Tell whether two plaits are the same."""
    return unlike(one, other) is None


def shows_unlike(one, other, paper):
    """Tell whether a paper tells a j and what both plaits make of x_j, and these words are unlike."""
    looked_both(one, other)
    j = paper[0]
    if not 1 <= j <= one[0] or paper[1] == paper[2]:
        return False
    return paper[1] == made_by_word(one[1], j) and paper[2] == made_by_word(other[1], j)
