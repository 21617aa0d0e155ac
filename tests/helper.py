"""What several test files need: plaits to try, and how to ask for refusals."""

from itertools import product

from loopwright import errors

CLASSES = [errors.NoPlait, errors.NoRoom, errors.NoStep, errors.NoTable, errors.NoNumber, errors.BadNote]

HUGE = 10 ** 6000

NO_PLAITS = [
    (0, ()),
    (-1, ()),
    (7, ()),
    (HUGE, ()),
    (-HUGE, ()),
    (1, (1,)),
    (1, (-1,)),
    (1, (0,)),
    (2, (2,)),
    (2, (-2,)),
    (4, (0,)),
    (4, (1, 2, 4)),
    (4, (-4, 1, 2)),
    (4, (1, 5, 2)),
    (6, (6,)),
    (6, (-6,)),
    (6, (-7,)),
    (7, (1,)),
    (7, (6,)),
    (-3, (1, 2)),
    (0, (1,)),
    (3, (HUGE,)),
    (3, (1, -HUGE)),
    (HUGE, (1, 2)),
    (2, (1,) * 17),
    (2, (1, -1) * 9),
    (6, (5,) * 40),
    (1, (1,) * 17),
]


def letters_of(strands):
    """All letters of so many strands."""
    return [sign * i for i in range(1, strands) for sign in (1, -1)]


def small_plaits(most_letters=3):
    """Every plait of 1 to 6 strands with few letters; fewer still where there are many strands."""
    plaits = []
    for strands in range(1, 7):
        for length in range(most_letters + 1 if strands < 5 else most_letters):
            plaits.extend([(strands, word) for word in product(letters_of(strands), repeat=length)])
    return plaits


def long_plaits():
    """Plaits with 13 to 16 letters, made by a fixed rule."""
    plaits = []
    for strands in range(2, 7):
        letters = letters_of(strands)
        for length in range(13, 17):
            for pace in range(1, 12):
                word = tuple(letters[(pace * at * at + at // 3) % len(letters)] for at in range(length))
                plaits.append((strands, word))
    return plaits


def all_plaits():
    return small_plaits() + long_plaits()


def refused(case, wanted, call, *values):
    """Look that a call is refused with just the class that is wanted."""
    try:
        call(*values)
    except ValueError as error:
        case.assertIs(type(error), wanted, values)
        return
    case.fail(f"{call.__name__} does not refuse")


def plain(case, value):
    """Look that a value is of whole numbers, texts and tuples alone, so that nobody can change it."""
    if type(value) is tuple:
        for part in value:
            plain(case, part)
    else:
        case.assertIn(type(value), (int, str))
