"""The one form of each plait: half twists, then orders, so that two plaits are the same just where their forms are."""

from loopwright.errors import NoPlait
from loopwright.plaits import MOST_STRANDS, contrary, exchanged, is_word, looked, looked_both, places_in

MOST_LETTERS_IN_FORM = 500


def plain_order(strands):
    """Tell the order in which each strand keeps its place."""
    return tuple(range(strands))


def half_twist(strands):
    """Tell the order in which each two strands change sides."""
    return tuple(range(strands - 1, -1, -1))


def can_begin(order, letter):
    """Tell whether an order can begin with a letter."""
    return order[letter - 1] > order[letter]


def letters_in(order):
    """Tell the letters of an order: the least one with which it can begin, then those of what is left."""
    letters = []
    letter = 1
    while letter < len(order):
        if can_begin(order, letter):
            letters.append(letter)
            order = exchanged(order, letter - 1)
            letter = 1
        else:
            letter += 1
    return tuple(letters)


def flipped_order(order):
    """Count the places of an order, and the places that it leads to, from the other side."""
    return tuple([len(order) - 1 - place for place in reversed(order)])


def order_for(strands, letter):
    """Tell the order that stands for a letter; for one below nought, behind a half twist's contrary."""
    if letter > 0:
        return exchanged(plain_order(strands), letter - 1)
    # The half twist without i as its last letter: the numbers i - 1 and i are exchanged in it, and there
    # they stand at the places counted from the other side.
    return exchanged(half_twist(strands), strands + letter - 1)


def moved_ahead(one, other):
    """Move letters from the beginning of the other order to the end of the one, till none can be moved."""
    if other == half_twist(len(other)):
        # This tells no more than the rows below would, but at once: a half twist goes ahead of any order.
        return (other, flipped_order(one))
    ends = places_in(one)
    letter = 1
    while letter < len(one):
        if can_begin(other, letter) and not can_begin(ends, letter):
            ends = exchanged(ends, letter - 1)
            other = exchanged(other, letter - 1)
            # Only the letters beside this one may have become such that can be moved.
            letter = max(letter - 1, 1)
        else:
            letter += 1
    return (places_in(ends), other)


def put_behind(orders, order):
    """Put an order behind a list of orders, so that again no letter can be moved from one to the one ahead."""
    orders.append(order)
    at = len(orders) - 1
    while at > 0:
        pair = moved_ahead(orders[at - 1], orders[at])
        # Where nothing moves, those ahead stay as they are; and those behind stay such that nothing moves.
        if pair[1] == orders[at]:
            break
        orders[at - 1] = pair[0]
        orders[at] = pair[1]
        at -= 1
    if orders[-1] == plain_order(len(order)):
        orders.pop()


def form_by_letters(strands, word):
    """Tell the form of the letters, one behind the other."""
    # Each letter below nought is an order behind a half twist's contrary. That one goes to the front, and on
    # its way it flips each order ahead of it: so an order is flipped once for each one that comes after.
    still_to_pass = len([letter for letter in word if letter < 0])
    power = -still_to_pass
    orders = []
    for letter in word:
        if letter < 0:
            still_to_pass -= 1
        order = order_for(strands, letter)
        if still_to_pass % 2 == 1:
            order = flipped_order(order)
        put_behind(orders, order)
    twists = orders.count(half_twist(strands))
    return (power + twists, tuple(orders[twists:]))


def form_of(plait):
    """Tell the form of a plait."""
    looked(plait)
    return form_by_letters(plait[0], plait[1])


def form_by(strands, word):
    """Tell the form of a word of at most 500 letters."""
    if not is_word(strands, word, MOST_LETTERS_IN_FORM):
        raise NoPlait("no word of 1 to 6 strands with up to 500 letters")
    return form_by_letters(strands, word)


def same_form(one, other):
    """Tell whether two plaits have the same form."""
    looked_both(one, other)
    return form_of(one) == form_of(other)


def can_stand(strands, order):
    """Tell whether a tuple of whole numbers is an order that can stand in a form."""
    if sorted(order) != list(range(strands)):
        return False
    return order != plain_order(strands) and order != half_twist(strands)


def can_stand_behind(order, other):
    """Tell whether each letter with which the other order can begin is one with which the order can end."""
    ends = places_in(order)
    return all([can_begin(ends, letter) for letter in range(1, len(order)) if can_begin(other, letter)])


def is_form(strands, form):
    """Tell whether a tuple of a whole number and a tuple of tuples of whole numbers is a form of so many strands."""
    orders = form[1]
    if not 1 <= strands <= MOST_STRANDS or (strands == 1 and form[0] != 0):
        return False
    if not all([can_stand(strands, order) for order in orders]):
        return False
    return all([can_stand_behind(orders[at - 1], orders[at]) for at in range(1, len(orders))])


def word_of(strands, form):
    """Tell the letters of a form: those of its half twists, then those of its orders."""
    if not is_form(strands, form):
        raise NoPlait("not a form of so many strands")
    twist = letters_in(half_twist(strands))
    if form[0] < 0:
        twist = contrary(twist)
    letters = list(twist * abs(form[0]))
    for order in form[1]:
        letters.extend(letters_in(order))
    return tuple(letters)
