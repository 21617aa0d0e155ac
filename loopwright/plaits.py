"""Plaits: tuples (strands, word), and what can be made of them."""

from loopwright.errors import NoPlait, NoRoom, NoStep

MOST_STRANDS = 6
MOST_LETTERS = 16


def is_letter(strands, letter):
    """Tell whether a whole number is a letter of so many strands."""
    return 1 <= abs(letter) < strands


def is_word(strands, word, most):
    """Tell whether there can be so many strands, and a word has only letters of theirs, at most so many."""
    if not 1 <= strands <= MOST_STRANDS or len(word) > most:
        return False
    return all([is_letter(strands, letter) for letter in word])


def is_plait(plait):
    """Tell whether a tuple of a whole number and a tuple of whole numbers is a plait."""
    return is_word(plait[0], plait[1], MOST_LETTERS)


def looked(plait):
    """Tell how many letters a plait has; refuse what is no plait."""
    # What is handed in may hold numbers too long to be written, so no refusal writes them.
    if not is_plait(plait):
        raise NoPlait("not a plait of 1 to 6 strands with up to 16 letters")
    return len(plait[1])


def looked_both(one, other):
    """Tell how many letters two plaits have together; refuse what is no plait, then unlike strands."""
    letters = looked(one) + looked(other)
    if one[0] != other[0]:
        raise NoStep("the plaits have unlike numbers of strands")
    return letters


def contrary(word):
    """Make the contrary of a word: from last to first, each letter's contrary."""
    return tuple([-letter for letter in reversed(word)])


def without_pairs(word):
    """Take letters beside their contraries out of a word till there are none."""
    kept = []
    for letter in word:
        if kept and kept[-1] == -letter:
            kept.pop()
        else:
            kept.append(letter)
    return tuple(kept)


def exchanged(row, at):
    """Exchange what stands in a tuple at a place, counted from 0, and at the next one."""
    return row[:at] + (row[at + 1], row[at]) + row[at + 2:]


def places_in(order):
    """Tell at which place of an order each number stands, from 0 on."""
    return tuple([order.index(number) for number in range(len(order))])


def behind(one, other):
    """Put the other plait behind the one."""
    if looked_both(one, other) > MOST_LETTERS:
        raise NoRoom("more than 16 letters would come")
    return (one[0], one[1] + other[1])


def turned(plait):
    """Make the contrary of a plait."""
    looked(plait)
    return (plait[0], contrary(plait[1]))


def mirrored(plait):
    """Exchange each letter for its contrary, in the same order."""
    looked(plait)
    return (plait[0], tuple([-letter for letter in plait[1]]))


def flipped_letter(strands, letter):
    """Count a letter's number from the other side, its sign kept."""
    if letter < 0:
        return -(strands + letter)
    return strands - letter


def flipped(plait):
    """Count each letter's number from the other side, its sign kept."""
    looked(plait)
    strands = plait[0]
    return (strands, tuple([flipped_letter(strands, letter) for letter in plait[1]]))


def shorter(plait):
    """Take letters beside their contraries out of a plait till there are none."""
    looked(plait)
    return (plait[0], without_pairs(plait[1]))


def often(plait, many):
    """Put a plait so many times behind itself; below nought so many times its contrary."""
    if looked(plait) * abs(many) > MOST_LETTERS:
        raise NoRoom("more than 16 letters would come")
    word = plait[1]
    if many < 0:
        word = contrary(word)
    # Without letters there is nothing to put behind itself, and many may be too great to count up to.
    if word:
        word = word * abs(many)
    return (plait[0], word)


def order_of(plait):
    """Tell to which place, counted from 0, the strand of each place comes."""
    looked(plait)
    standing = tuple(range(plait[0]))
    for letter in plait[1]:
        standing = exchanged(standing, abs(letter) - 1)
    return places_in(standing)
