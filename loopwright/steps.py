"""Steps: each leads from a word of letters to another word of the same plait."""

from loopwright.errors import NoPlait, NoRoom, NoStep
from loopwright.plaits import exchanged, is_letter, is_word

MOST_LETTERS_IN_STEPS = 4000


def looked_word(strands, word):
    """Refuse what is no word of letters of so many strands."""
    if not is_word(strands, word, MOST_LETTERS_IN_STEPS):
        raise NoPlait("no word of 1 to 6 strands with up to 4,000 letters")


def can_far(word, at):
    """Tell whether the letters at a place and the next one are such that they can change places."""
    if not 0 <= at < len(word) - 1:
        return False
    return abs(abs(word[at]) - abs(word[at + 1])) > 1


def can_three(word, at):
    """Tell whether the three letters from a place on are such that they can be exchanged."""
    if not 0 <= at < len(word) - 2:
        return False
    p = word[at]
    q = word[at + 1]
    r = word[at + 2]
    if abs(p) != abs(r) or abs(abs(p) - abs(q)) != 1:
        return False
    return p != r or p * q > 0


def can_out(word, at):
    """Tell whether a letter at a place and, next to it, its contrary are there."""
    if not 0 <= at < len(word) - 1:
        return False
    return word[at] == -word[at + 1]


# By the kinds' names, in the order in which choices tells them.
CAN = {"far": can_far, "three": can_three, "out": can_out}


def signed(number, letter):
    """Give a letter's number another letter's sign."""
    if letter < 0:
        return -abs(number)
    return abs(number)


def with_three(word, at):
    """Exchange the three letters from a place on."""
    p = word[at]
    q = word[at + 1]
    r = word[at + 2]
    return word[:at] + (signed(q, r), signed(p, q), signed(q, p)) + word[at + 3:]


def with_in(strands, word, at, letter):
    """Put a letter and, behind it, its contrary in ahead of a place, or behind the last letter."""
    if not 0 <= at <= len(word) or not is_letter(strands, letter):
        raise NoStep("there is no such place, or no such letter")
    if len(word) + 2 > MOST_LETTERS_IN_STEPS:
        raise NoRoom("more than 4,000 letters would come")
    return word[:at] + (letter, -letter) + word[at:]


def done(strands, word, step):
    """Do a step with a word that has been looked at."""
    if len(step) == 3 and step[0] == "in":
        return with_in(strands, word, step[1], step[2])
    if len(step) != 2 or step[0] not in CAN:
        raise NoStep("there is no such kind of step")
    at = step[1]
    if not CAN[step[0]](word, at):
        raise NoStep("the letters there are not such that this step can be done")
    if step[0] == "far":
        return exchanged(word, at)
    if step[0] == "three":
        return with_three(word, at)
    return word[:at] + word[at + 2:]


def stepped(strands, word, step):
    """Tell the word that a step leads to."""
    looked_word(strands, word)
    return done(strands, word, step)


def walked(strands, word, steps):
    """Tell the word that a list of steps, one behind the other, leads to."""
    looked_word(strands, word)
    for step in steps:
        word = done(strands, word, step)
    return word


def choices(strands, word):
    """Tell all steps far, then three, then out that can be done, each kind rising."""
    looked_word(strands, word)
    found = []
    for kind in CAN:
        found.extend([(kind, at) for at in range(len(word)) if CAN[kind](word, at)])
    return found
