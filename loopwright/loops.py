"""Loops: what plaits close to, and the moves that keep it."""

from loopwright.errors import NoRoom, NoStep
from loopwright.plaits import MOST_LETTERS, MOST_STRANDS, exchanged, flipped, looked, order_of
from loopwright.steps import stepped


def piece_from(order, begin):
    """Tell the places, rising, that one goes through from a place on till it is come back to."""
    places = [begin]
    at = order[begin]
    while at != begin:
        places.append(at)
        at = order[at]
    return sorted(places)


def pieces(plait):
    """Tell the places of each piece of the closed plait, rising, told rising by their first places."""
    order = order_of(plait)
    found = [piece_from(order, begin) for begin in range(len(order))]
    # Each piece is found once from each of its places.
    return [found[place] for place in range(len(order)) if found[place][0] == place]


def sign_of(letter):
    """Tell a letter's sign, 1 or -1."""
    if letter < 0:
        return -1
    return 1


def turns(plait):
    """Tell the sum of the letters' signs."""
    looked(plait)
    return sum([sign_of(letter) for letter in plait[1]])


def crossings(plait):
    """Tell, letter by letter, a tuple of the places at which both its strands begin, and its sign."""
    standing = tuple(range(plait[0]))
    found = []
    for letter in plait[1]:
        at = abs(letter) - 1
        found.append((standing[at], standing[at + 1], sign_of(letter)))
        standing = exchanged(standing, at)
    return found


def piece_numbers(parts):
    """Tell by each place the number of its piece."""
    numbers = {}
    for number, places in enumerate(parts):
        for place in places:
            numbers[place] = number
    return numbers


def windings(plait):
    """Tell the tuples (one, other, winding) for each two pieces' numbers, rising."""
    parts = pieces(plait)
    sums = {}
    for one in range(len(parts)):
        for other in range(one + 1, len(parts)):
            sums[(one, other)] = 0
    numbers = piece_numbers(parts)
    for first, second, sign in crossings(plait):
        one = min(numbers[first], numbers[second])
        other = max(numbers[first], numbers[second])
        if one != other:
            sums[(one, other)] += sign
    return [(one, other, sums[(one, other)] // 2) for one, other in sums]


def with_round(plait):
    """Put the first letter behind the last one."""
    if not plait[1]:
        raise NoStep("there is no letter to go round")
    return (plait[0], plait[1][1:] + plait[1][:1])


def with_back(plait):
    """Put the last letter ahead of the first one."""
    if not plait[1]:
        raise NoStep("there is no letter to go back")
    return (plait[0], plait[1][-1:] + plait[1][:-1])


def with_less(plait):
    """Take the last letter and the last strand away."""
    greatest = plait[0] - 1
    found = [at for at, letter in enumerate(plait[1]) if abs(letter) == greatest]
    if found != [len(plait[1]) - 1]:
        raise NoStep("the last letter is not the only one with the greatest number")
    return (greatest, plait[1][:-1])


def with_more(plait, sign):
    """Put a strand behind the last one, and behind the word a letter with which both cross."""
    strands = plait[0]
    if strands == MOST_STRANDS or len(plait[1]) == MOST_LETTERS:
        raise NoRoom("more than 16 letters or 6 strands would come")
    if sign not in (1, -1):
        raise NoStep("there is no such sign")
    return (strands + 1, plait[1] + (sign * strands,))


def with_step(plait, step):
    """Do a step with the word."""
    word = stepped(plait[0], plait[1], step)
    if len(word) > MOST_LETTERS:
        raise NoRoom("more than 16 letters would come")
    return (plait[0], word)


def moved(plait, move):
    """Tell the plait that a move leads to."""
    looked(plait)
    if len(move) == 2 and move[0] == "more":
        return with_more(plait, move[1])
    if len(move) == 2 and move[0] == "step":
        return with_step(plait, move[1])
    if move == ("round",):
        return with_round(plait)
    if move == ("back",):
        return with_back(plait)
    if move == ("less",):
        return with_less(plait)
    if move == ("flip",):
        return flipped(plait)
    raise NoStep("there is no such kind of move")


def moved_all(plait, moves):
    """Tell the plait that a list of moves, one behind the other, leads to."""
    looked(plait)
    for move in moves:
        plait = moved(plait, move)
    return plait
