"""What several test files need: plaits to try, and how to ask for refusals."""

import inspect
from itertools import product

from loopwright import errors

CLASSES = [errors.NoPlait, errors.NoRoom, errors.NoStep, errors.NoTable, errors.NoNumber, errors.BadNote]

HUGE = 10 ** 6000

# Whole numbers that are far from any that is asked for: of some thirty figures, and of more than Python writes.
FAR_NUMBERS = [10 ** 30 + 57, -10 ** 30 - 57, 2 ** 100, HUGE, -HUGE]

# No plaits, and no words of letters either, however long these may be.
NO_WORDS = [
    (0, ()),
    (-1, ()),
    (7, ()),
    (HUGE, ()),
    (-HUGE, ()),
    (1, (1,)),
    (1, (-1,)),
    (1, (0,)),
    (2, (2,)),
    (2, (-2,)),
    (4, (0,)),
    (4, (1, 2, 4)),
    (4, (-4, 1, 2)),
    (4, (1, 5, 2)),
    (6, (6,)),
    (6, (-6,)),
    (6, (-7,)),
    (7, (1,)),
    (7, (6,)),
    (-3, (1, 2)),
    (0, (1,)),
    (3, (HUGE,)),
    (3, (1, -HUGE)),
    (HUGE, (1, 2)),
]

NO_PLAITS = NO_WORDS + [
    (2, (1,) * 17),
    (2, (1, -1) * 9),
    (6, (5,) * 40),
    (1, (1,) * 17),
]

# Plaits that are the same.
SAME = [
    ((1, ()), (1, ())),
    ((2, (1, -1)), (2, ())),
    ((2, (-1, 1)), (2, ())),
    ((4, (1, 3)), (4, (3, 1))),
    ((4, (1, -3)), (4, (-3, 1))),
    ((6, (-1, -5)), (6, (-5, -1))),
    ((3, (1, 2, 1)), (3, (2, 1, 2))),
    ((3, (-1, -2, -1)), (3, (-2, -1, -2))),
    ((6, (4, 5, 4)), (6, (5, 4, 5))),
    ((3, (1, 2, -1)), (3, (-2, 1, 2))),
    ((3, (1, 2, 1, 1, 2, 1, 1)), (3, (1, 1, 2, 1, 1, 2, 1))),
    ((3, (1, 2) * 3 + (2,)), (3, (2,) + (1, 2) * 3)),
    ((4, (1, 2, 3) * 4 + (-2,)), (4, (-2,) + (3, 2, 1) * 4)),
]

# Plaits that are not the same; where it is short, also what tells them apart.
UNLIKE = [
    ((2, (1,)), (2, ()), (1, (1, 2, -1), (1,))),
    ((2, ()), (2, (1,)), (1, (1,), (1, 2, -1))),
    ((2, (1,)), (2, (-1,)), (1, (1, 2, -1), (2,))),
    ((3, (2,)), (3, ()), (2, (2, 3, -2), (2,))),
    ((6, (5,)), (6, (-5,)), (5, (5, 6, -5), (6,))),
    ((6, (-5, -5)), (6, ()), (5, (-6, 5, 6), (5,))),
    ((3, (1, 2)), (3, (2, 1)), (1, (1, 2, 3, -2, -1), (1, 2, -1))),
    ((3, (1, 1, 2, 2)), (3, (2, 2, 1, 1)), None),
    ((3, (1, -2, 1)), (3, (-2, 1, -2)), None),
    ((3, (1, -2, 1)), (3, (2, -1, 2)), None),
    ((4, (1, 2, -3)), (4, (-3, 2, 1)), None),
    ((3, (1, -2) * 8), (3, (-2, 1) * 8), None),
    ((6, (5,) * 16), (6, (5,) * 15), None),
]

# Primes, and plaits with as many more rows of colours that come back by numbers round them.
BY_GREAT_PRIMES = [
    (97, (3, (1, -2, 1, 1, -2, 1, -2, 1, -2, -2, -2, -2, -2, 1))),
    (89, (3, (-2, 1, 1, 1, -2, 1, -2, 1, -2, -2, 1, 1, 1, 2))),
    (83, (3, (1, -2, -2, -2, -2, 1, 2, -2, 1, 1, 1, -2, -2, -2))),
    (79, (3, (-2, 1, 1, -2, 1, 1, -2, 1, 1, 1, 1, 1, -2))),
]

# What comes of three letters by a step three, where p stands for 1 and q for 2.
FORMS_OF_THREE = {
    (1, 2, 1): (2, 1, 2),
    (-1, -2, -1): (-2, -1, -2),
    (1, 2, -1): (-2, 1, 2),
    (-1, 2, 1): (2, 1, -2),
    (1, -2, -1): (-2, -1, 2),
    (-1, -2, 1): (2, -1, -2),
}


def all_threes():
    """What comes of each three letters with which there is a step three."""
    threes = {}
    for p in range(1, 5):
        for numbers in ({1: p, 2: p + 1, -1: -p, -2: -p - 1}, {1: p + 1, 2: p, -1: -p - 1, -2: -p}):
            for before, after in FORMS_OF_THREE.items():
                threes[tuple(numbers[x] for x in before)] = tuple(numbers[x] for x in after)
    return threes


THREES = all_threes()


def letters_of(strands):
    """All letters of so many strands."""
    return [sign * i for i in range(1, strands) for sign in (1, -1)]


def small_plaits(most_letters=3):
    """Every plait of 1 to 6 strands with few letters; fewer still where there are many strands."""
    plaits = []
    for strands in range(1, 7):
        for length in range(most_letters + 1 if strands < 5 else most_letters):
            plaits.extend([(strands, word) for word in product(letters_of(strands), repeat=length)])
    return plaits


def long_plaits():
    """Plaits with 13 to 16 letters, made by a fixed rule."""
    plaits = []
    for strands in range(2, 7):
        letters = letters_of(strands)
        for length in range(13, 17):
            for pace in range(1, 12):
                word = tuple(letters[(pace * at * at + at // 3) % len(letters)] for at in range(length))
                plaits.append((strands, word))
    return plaits


def all_plaits():
    return small_plaits() + long_plaits()


def arguments_are(case, module, wanted):
    """Look that a module has functions with just these names of arguments."""
    for name, arguments in wanted.items():
        case.assertEqual(list(inspect.signature(getattr(module, name)).parameters), arguments, name)


def refused(case, wanted, call, *values):
    """Look that a call is refused with just the class that is wanted."""
    try:
        call(*values)
    except ValueError as error:
        case.assertIs(type(error), wanted, values)
        return
    case.fail(f"{call.__name__} does not refuse")


def refused_of_two(case, call, *more):
    """Look that a call of two plaits refuses what is no plait, then unlike numbers of strands."""
    for wrong in NO_PLAITS:
        for good in [(1, ()), (3, (1, 2)), (6, (5,) * 16)]:
            refused(case, errors.NoPlait, call, wrong, good, *more)
            refused(case, errors.NoPlait, call, good, wrong, *more)
        refused(case, errors.NoPlait, call, wrong, wrong, *more)
    for one in range(1, 7):
        for other in range(1, 7):
            if one != other:
                refused(case, errors.NoStep, call, (one, ()), (other, ()), *more)
    refused(case, errors.NoStep, call, (3, (1, 2)), (4, (1, 2)), *more)
    refused(case, errors.NoStep, call, (6, (5,) * 16), (5, (4,) * 16), *more)


def plainly_reduced(word):
    """Reduce a free word from its end on: another order than the program's."""
    kept = []
    for letter in reversed(word):
        if kept[-1:] == [-letter]:
            del kept[-1]
        else:
            kept.append(letter)
    return tuple(reversed(kept))


def images_of_letter(strands, letter):
    images = {j: (j,) for j in range(1, strands + 1)}
    i = abs(letter)
    if letter > 0:
        images.update({i: (i, i + 1, -i), i + 1: (i,)})
    else:
        images.update({i: (i + 1,), i + 1: (-(i + 1), i, i + 1)})
    return images


def plain_images(strands, word):
    """What a word makes of all letters, found from its last letter to its first: another way than the program's."""
    images = {j: (j,) for j in range(1, strands + 1)}
    for letter in reversed(word):
        first = images_of_letter(strands, letter)
        behind = {**images, **{-j: tuple(-x for x in reversed(images[j])) for j in images}}
        images = {j: plainly_reduced(sum((behind[x] for x in first[j]), ())) for j in first}
    return [images[j] for j in sorted(images)]


def plain_steps(strands, word, most):
    """All steps that can be done with a word, each with the word that comes of it, up to so many letters."""
    found = []
    for at in range(len(word) - 1):
        if abs(abs(word[at]) - abs(word[at + 1])) > 1:
            found.append((("far", at), word[:at] + word[at:at + 2][::-1] + word[at + 2:]))
    for at in range(len(word) - 2):
        three = THREES.get(word[at:at + 3])
        if three:
            found.append((("three", at), word[:at] + three + word[at + 3:]))
    for at in range(len(word) - 1):
        if word[at] + word[at + 1] == 0:
            found.append((("out", at), word[:at] + word[at + 2:]))
    if len(word) + 2 <= most:
        for at in range(len(word) + 1):
            for letter in letters_of(strands):
                found.append((("in", at, letter), word[:at] + (letter, -letter) + word[at:]))
    return found


def walk_from(strands, word, seed, many, most):
    """A row of so many steps with a word, chosen by a fixed rule, each with the word that comes of it."""
    row = []
    for _ in range(many):
        found = plain_steps(strands, word, most)
        # Steps that exchange letters are few among those that put them in, and so are taken by turns.
        rare = [step for step in found if step[0][0] in ("far", "three")]
        seed = (seed * 1103515245 + 12345) % 2 ** 31
        if seed // 2 ** 16 % 3 and rare:
            found = rare
        if not found:
            break
        row.append(found[seed // 2 ** 8 % len(found)])
        word = row[-1][1]
    return row


def plain_moves(plait):
    """All moves that can be done with a plait, each with the plait that comes of it, by what point 52 says."""
    strands, word = plait
    found = [(("flip",), (strands, tuple((strands - abs(x)) * (1 if x > 0 else -1) for x in word)))]
    if word:
        found.append((("round",), (strands, word[1:] + word[:1])))
        found.append((("back",), (strands, word[-1:] + word[:-1])))
    if strands < 6 and len(word) < 16:
        found.extend([(("more", sign), (strands + 1, word + (sign * strands,))) for sign in (1, -1)])
    if [abs(x) for x in word].count(strands - 1) == 1 and abs(word[-1]) == strands - 1:
        found.append((("less",), (strands - 1, word[:-1])))
    found.extend([(("step", step), (strands, led)) for step, led in plain_steps(strands, word, 16)])
    return found


def kind_of_move(move):
    """The first word of a move; of a step, that of the step."""
    return move[1][0] if move[0] == "step" else move[0]


def walk_moves(plait, seed, many):
    """A row of so many moves with a plait, chosen by a fixed rule, each with the plait that comes of it."""
    row = []
    for _ in range(many):
        found = plain_moves(plait)
        # Kinds are chosen first, since there are by far the most moves that put letters in.
        kinds = sorted({kind_of_move(move) for move, _ in found})
        seed = (seed * 1103515245 + 12345) % 2 ** 31
        found = [pair for pair in found if kind_of_move(pair[0]) == kinds[seed // 2 ** 16 % len(kinds)]]
        row.append(found[seed // 2 ** 8 % len(found)])
        plait = row[-1][1]
    return row


def closed_plaits():
    """Plaits of all numbers of strands, with 0 to 16 letters, that close to one piece and to more."""
    few = [(strands, ()) for strands in range(1, 7)] + [(2, (1,) * many) for many in range(1, 17)]
    few += [
        (2, (-1,)), (3, (1, -2, 1, -2)), (3, (1, 1)), (3, (-1, 2) * 8), (4, (1, 3)), (4, (1, -2, 3, -2) * 4), (5, (4,)),
        (5, (1, 2, 3, 4) * 3), (6, (1, 3, 5, 1, 3, 5)), (6, (1, -2, 3, -4, 5)), (6, (5,) * 16), (6, (1, 2, 3, 4, 5) * 3),
        (4, (1, 2, -3, -3, -2, 1, 2, 1)), (4, (1, 1, -2, 3, -2, 3, 3)),
    ]
    return few + long_plaits()[::6]


def plain(case, value):
    """Look that a value is of whole numbers, texts and tuples alone, so that nobody can change it."""
    if type(value) is tuple:
        for part in value:
            plain(case, part)
    else:
        case.assertIn(type(value), (int, str))
