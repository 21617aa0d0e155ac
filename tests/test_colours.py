"""Points 1 and 60 to 63, and the interface's section loopwright/colours.py."""

import unittest
from itertools import permutations, product

from helper import (
    BY_GREAT_PRIMES, FAR_NUMBERS, NO_PLAITS, SAME, arguments_are, closed_plaits, long_plaits, plain, plain_moves,
    refused, small_plaits, walk_from, walk_moves,
)
from loopwright import colours
from loopwright.colours import coloured, colourings, free_colours, ring_table
from loopwright.errors import NoNumber, NoPlait, NoRoom, NoTable
from loopwright.plaits import turned

PRIMES = [number for number in range(3, 98) if all(number % other for other in range(2, number))]


def table_by(many, under):
    return tuple(tuple(under(a, b) for b in range(many)) for a in range(many))


def by_numbers(many, share):
    """Numbers round many, of which share is one that can be taken back: so often a, and the rest b."""
    return table_by(many, lambda a, b: (share * a + (1 - share) * b) % many)


def by_exchanges(shapes):
    """Rows of numbers that exchange places, each under another one as that one leads it."""
    def under(a, b):
        back = tuple(shapes[b].index(place) for place in range(len(shapes[b])))
        return shapes.index(tuple(shapes[b][shapes[a][back[place]]] for place in range(len(back))))
    return table_by(len(shapes), under)


FOUR = ((0, 2, 3, 1), (3, 1, 0, 2), (1, 3, 2, 0), (2, 0, 1, 3))
TABLES = [table_by(many, lambda a, b: a) for many in range(1, 8)] + [
    by_numbers(3, 2), by_numbers(4, 3), by_numbers(5, 2), by_numbers(5, 3), by_numbers(5, 4), by_numbers(6, 5),
    by_numbers(7, 2), by_numbers(7, 3), by_numbers(7, 6), by_exchanges(list(permutations(range(3)))), FOUR,
    by_exchanges([(1, 0, 2, 3), (2, 1, 0, 3), (3, 1, 2, 0), (0, 2, 1, 3), (0, 3, 2, 1), (0, 1, 3, 2)]),
    by_exchanges([(1, 2, 3, 0), (1, 3, 0, 2), (2, 3, 1, 0), (2, 0, 3, 1), (3, 2, 0, 1), (3, 0, 1, 2)]),
    ((0, 0, 1), (1, 1, 0), (2, 2, 2)), ((0, 0, 0), (2, 1, 1), (1, 2, 2)),
]

# Each keeps all rules but one.
BREAKS_FIRST = [((1, 1), (0, 0)), ((1, 1, 1), (2, 2, 2), (0, 0, 0)), ((0, 0, 0), (2, 2, 2), (1, 1, 1))]
BREAKS_SECOND = [((0, 1), (0, 1)), ((0, 0, 0), (0, 1, 2), (0, 1, 2)), ((0, 1, 2), (0, 1, 2), (0, 1, 2))]
BREAKS_THIRD = [((0, 2, 0), (2, 1, 1), (1, 0, 2)), ((0, 2, 1), (1, 1, 0), (2, 0, 2))]
NO_TABLES = BREAKS_FIRST + BREAKS_SECOND + BREAKS_THIRD + [
    (), ((),), ((1,),), ((-1,),), ((0, 0),), ((0,), (0,)), ((0,), (1,)), ((0, 0), (1,)), ((0,), (1, 1)), ((0, 0), (1, 1, 1)),
    ((0, 0, 0), (1, 1, 1)), ((0, 0), (1, 1), (2, 2)), ((0, 0), ()), ((), ()), ((0, 0), (1, -1)), ((0, -2), (1, 1)),
    ((0, 0), (-1, 1)), ((0, 0), (2, 1)), ((1, 1), (2, 2)), ((0, 0, 0), (1, 1, 1), (2, 2)), ((0, 0, 0), (1, 1, 1), (2, 2, 3)),
    ((0, 0, 0), (-2, 1, -2), (2, 2, 2)), table_by(8, lambda a, b: a), table_by(8, lambda a, b: (2 * b - a) % 8),
    table_by(30, lambda a, b: a), ((0,) * 7,) * 7, ((0,),) * 8, ((0,) * 8,),
] + [wrong for far in FAR_NUMBERS for wrong in [((far,),), ((0, far), (1, 1)), ((0, 0), (far, 1)), ((far, 0), (1, far))]]


def keeps_rules(table):
    """Tell by the three rules whether they are kept, each told apart."""
    many = range(len(table))
    first = all(table[a][a] == a for a in many)
    second = all({table[a][b] for a in many} == set(many) for b in many)
    third = all(table[table[a][b]][c] == table[table[a][c]][table[b][c]] for a, b, c in product(many, repeat=3))
    return first, second, third


def plainly_led(table, word, row):
    """The colours behind a word, each contrary letter undone by looking for what leads to what is there."""
    row = list(row)
    for letter in word:
        i = abs(letter)
        a, b = row[i - 1:i + 1]
        if letter > 0:
            row[i - 1:i + 1] = [b, table[a][b]]
        else:
            row[i - 1:i + 1] = [[x for x in range(len(table)) if table[x][a] == b][0], a]
    return tuple(row)


def led_by_numbers(prime, word, row):
    row = list(row)
    for letter in word:
        i = abs(letter)
        a, b = row[i - 1:i + 1]
        row[i - 1:i + 1] = [b, (2 * b - a) % prime] if letter > 0 else [(2 * a - b) % prime, a]
    return tuple(row)


def rows_by_numbers(prime, plait):
    """How many rows come back, by trying those that begin with nought: by as much more, as many begin with another."""
    strands, word = plait
    rest = product(range(prime), repeat=strands - 1)
    return prime * sum(led_by_numbers(prime, word, (0, *row)) == (0, *row) for row in rest)


class InterfaceTest(unittest.TestCase):
    def test_names_and_arguments(self):
        arguments_are(self, colours, {
            "coloured": ["table", "plait", "colours"], "colourings": ["table", "plait"],
            "free_colours": ["prime", "plait"], "ring_table": ["many"],
        })


class TableTest(unittest.TestCase):
    """Point 60."""

    def test_what_is_a_table(self):
        for table in TABLES:
            self.assertEqual(keeps_rules(table), (True, True, True))
            for colour in range(len(table)):
                self.assertEqual(coloured(table, (1, ()), (colour,)), (colour,))
            self.assertEqual(colourings(table, (1, ())), [(colour,) for colour in range(len(table))])

    def test_what_breaks_just_one_rule(self):
        self.assertEqual({keeps_rules(table) for table in BREAKS_FIRST}, {(False, True, True)})
        self.assertEqual({keeps_rules(table) for table in BREAKS_SECOND}, {(True, False, True)})
        self.assertEqual({keeps_rules(table) for table in BREAKS_THIRD}, {(True, True, False)})
        for table in BREAKS_FIRST + BREAKS_SECOND + BREAKS_THIRD:
            for strands in range(1, 7):
                refused(self, NoTable, coloured, table, (strands, ()), (0,) * strands)
                refused(self, NoTable, colourings, table, (strands, ()))

    def test_what_is_no_table(self):
        for table in NO_TABLES:
            for plait in [(1, ()), (2, (1,)), (3, (1, -2)), (6, (5,) * 16)]:
                refused(self, NoTable, coloured, table, plait, (0,) * plait[0])
                refused(self, NoTable, colourings, table, plait)

    def test_all_tuples_of_one_to_three_colours(self):
        for many, wanted in ((1, 1), (2, 1), (3, 5)):
            found = 0
            for numbers in product(range(many), repeat=many * many):
                table = tuple(numbers[many * a:many * a + many] for a in range(many))
                if all(keeps_rules(table)):
                    found += 1
                    self.assertEqual(coloured(table, (1, ()), (0,)), (0,))
                else:
                    refused(self, NoTable, coloured, table, (1, ()), (0,))
            self.assertEqual(found, wanted)

    def test_another_colour_in_one_place(self):
        for table in TABLES:
            many = len(table)
            for a, b, other in product(range(many), range(many), (-1, 0, many - 1, many)):
                row = table[a][:b] + (other,) + table[a][b + 1:]
                changed = table[:a] + (row,) + table[a + 1:]
                if changed != table:
                    refused(self, NoTable, coloured, changed, (2, (1,)), (0, 0))
                    refused(self, NoTable, colourings, changed, (2, (1,)))

    def test_seven_colours_and_eight(self):
        seven = table_by(7, lambda a, b: (2 * b - a) % 7)
        eight = table_by(8, lambda a, b: (2 * b - a) % 8)
        self.assertEqual(coloured(seven, (2, (1,)), (6, 5)), (5, 4))
        refused(self, NoTable, coloured, eight, (2, (1,)), (6, 5))
        refused(self, NoTable, colourings, eight, (2, (1,)))


class ColouredTest(unittest.TestCase):
    """Point 61."""

    def test_ordinary_rows(self):
        three = ring_table(3)
        self.assertEqual(coloured(three, (2, (1,)), (0, 1)), (1, 2))
        self.assertEqual(coloured(three, (2, (-1,)), (1, 2)), (0, 1))
        self.assertEqual(coloured(three, (2, (1, 1, 1)), (0, 1)), (0, 1))
        self.assertEqual(coloured(three, (3, (2,)), (0, 1, 2)), (0, 2, 0))
        self.assertEqual(coloured(three, (6, (5,)), (0, 1, 2, 0, 1, 2)), (0, 1, 2, 0, 2, 0))
        self.assertEqual(coloured(((0,),), (6, (1, -2, 3, -4, 5)), (0,) * 6), (0,) * 6)

    def test_where_under_is_not_its_own_contrary(self):
        five = by_numbers(5, 2)
        self.assertEqual(coloured(five, (2, (1,)), (1, 3)), (3, 4))
        self.assertEqual(coloured(five, (2, (-1,)), (1, 3)), (2, 1))
        self.assertEqual(coloured(five, (2, (-1,)), (3, 4)), (1, 3))
        self.assertEqual(coloured(FOUR, (2, (1,)), (0, 1)), (1, 2))
        self.assertEqual(coloured(FOUR, (2, (-1,)), (0, 1)), (2, 0))
        self.assertEqual(coloured(FOUR, (2, (-1,)), (1, 2)), (0, 1))
        # Under the last colour the others change places; it stays under each of them.
        table = ((0, 0, 1), (1, 1, 0), (2, 2, 2))
        self.assertEqual(coloured(table, (2, (1,)), (0, 2)), (2, 1))
        self.assertEqual(coloured(table, (2, (1,)), (2, 0)), (0, 2))
        self.assertEqual(coloured(table, (2, (-1,)), (0, 2)), (2, 0))
        self.assertEqual(coloured(table, (2, (-1,)), (2, 1)), (0, 2))

    def test_each_row_goes_down_so(self):
        for table in TABLES:
            for plait in small_plaits(2)[::3] + long_plaits()[::8]:
                if len(table) ** plait[0] <= 2500:
                    for row in list(product(range(len(table)), repeat=plait[0]))[::7]:
                        self.assertEqual(coloured(table, plait, row), plainly_led(table, plait[1], row))

    def test_without_letters(self):
        for strands in range(1, 7):
            for table in TABLES:
                for row in [(0,) * strands, tuple(place % len(table) for place in range(strands))]:
                    self.assertEqual(coloured(table, (strands, ()), row), row)

    def test_a_plait_and_its_contrary_undo_one_another(self):
        for table in TABLES:
            for plait in long_plaits()[::6]:
                row = tuple((place * place + 1) % len(table) for place in range(plait[0]))
                self.assertEqual(coloured(table, turned(plait), coloured(table, plait, row)), row)
                self.assertEqual(coloured(table, plait, coloured(table, turned(plait), row)), row)

    def test_words_of_one_plait_do_the_same(self):
        for table in TABLES:
            for one, other in SAME:
                row = tuple((3 * place + 1) % len(table) for place in range(one[0]))
                self.assertEqual(coloured(table, one, row), coloured(table, other, row))
            for strands, word in long_plaits()[::9]:
                led = walk_from(strands, word, strands + len(word), 40, 16)[-1][1]
                row = tuple((place * place) % len(table) for place in range(strands))
                self.assertEqual(coloured(table, (strands, led), row), coloured(table, (strands, word), row))

    def test_what_is_no_colour_for_each_place(self):
        for table in TABLES:
            many = len(table)
            for strands, word in [(1, ()), (2, (1,)), (4, (1, -2, 3)), (6, (5,) * 16)]:
                refused(self, NoTable, coloured, table, (strands, word), ())
                refused(self, NoTable, coloured, table, (strands, word), (0,) * (strands - 1))
                refused(self, NoTable, coloured, table, (strands, word), (0,) * (strands + 1))
                refused(self, NoTable, coloured, table, (strands, word), (0,) * 40)
                for at in range(strands):
                    for wrong in [-1, -many, many, many + 1, 7] + FAR_NUMBERS:
                        row = (0,) * at + (wrong,) + (0,) * (strands - at - 1)
                        refused(self, NoTable, coloured, table, (strands, word), row)

    def test_no_plait_is_refused_ahead_of_the_table(self):
        for wrong in NO_PLAITS:
            for table in TABLES[::5] + NO_TABLES[::3]:
                for row in [(), (0,), (0, 0, 0), (-1,), (9, 9)]:
                    refused(self, NoPlait, coloured, table, wrong, row)
                refused(self, NoPlait, colourings, table, wrong)


class ColouringsTest(unittest.TestCase):
    """Point 62."""

    def test_ordinary_rows(self):
        self.assertEqual(colourings(ring_table(3), (2, (1,))), [(0, 0), (1, 1), (2, 2)])
        self.assertEqual(colourings(ring_table(2), (2, (1, 1))), [(0, 0), (0, 1), (1, 0), (1, 1)])
        self.assertEqual(colourings(ring_table(3), (2, (1, 1, 1))), list(product(range(3), repeat=2)))
        self.assertEqual(colourings(ring_table(4), (2, (1, 1))), [
            (0, 0), (0, 2), (1, 1), (1, 3), (2, 0), (2, 2), (3, 1), (3, 3)])
        self.assertEqual(len(colourings(ring_table(5), (3, (1, -2, 1, -2)))), 25)
        self.assertEqual(len(colourings(ring_table(3), (3, (1, -2, 1, -2)))), 3)
        self.assertEqual(len(colourings(FOUR, (2, (1, 1, 1)))), 16)
        self.assertEqual(len(colourings(FOUR, (3, (1, -2, 1, -2)))), 16)
        self.assertEqual(len(colourings(FOUR, (2, (1,) * 5))), 4)

    def test_without_letters_all_come_back(self):
        for table in TABLES:
            for strands in range(1, 7):
                if len(table) ** strands <= 2500:
                    wanted = list(product(range(len(table)), repeat=strands))
                    self.assertEqual(colourings(table, (strands, ())), wanted)

    def test_all_rows_that_come_back_rising(self):
        for table in TABLES:
            for plait in small_plaits(2)[::5] + closed_plaits():
                if len(table) ** plait[0] <= 300:
                    rows = product(range(len(table)), repeat=plait[0])
                    wanted = [row for row in rows if plainly_led(table, plait[1], row) == row]
                    self.assertEqual(colourings(table, plait), wanted)
                    self.assertTrue(all(coloured(table, plait, row) == row for row in wanted))

    def test_up_to_2500_rows(self):
        for many, strands in [(7, 4), (6, 4), (5, 4), (4, 5), (3, 6), (2, 6), (1, 6)]:
            self.assertEqual(len(colourings(ring_table(many), (strands, ()))), many ** strands)
        for many, strands in [(7, 5), (7, 6), (6, 5), (6, 6), (5, 5), (5, 6), (4, 6)]:
            for word in [(), (1, 2), (strands - 1,) * 16]:
                refused(self, NoRoom, colourings, ring_table(many), (strands, word))

    def test_no_table_is_refused_ahead_of_room(self):
        for table in NO_TABLES:
            refused(self, NoTable, colourings, table, (6, (5,) * 16))
        for strands in (5, 6):
            refused(self, NoTable, colourings, table_by(8, lambda a, b: a), (strands, ()))
            refused(self, NoTable, colourings, ((0,) * 7,) * 7, (strands, ()))

    def test_each_move_keeps_how_many(self):
        for plait in small_plaits(2)[::9] + closed_plaits()[::3]:
            for table in TABLES[2:]:
                if len(table) ** (plait[0] + 1) <= 350:
                    many = len(colourings(table, plait))
                    for _, led in plain_moves(plait)[::4]:
                        self.assertEqual(len(colourings(table, led)), many)

    def test_rows_of_moves_keep_how_many(self):
        for plait in closed_plaits():
            row = [led for _, led in walk_moves(plait, 5 * plait[0] + len(plait[1]), 60)]
            for table in TABLES[2:]:
                many = {len(colourings(table, led)) for led in [plait] + row[::4] if len(table) ** led[0] <= 400}
                self.assertLessEqual(len(many), 1)


class FreeColoursTest(unittest.TestCase):
    """Point 63."""

    def test_ordinary_plaits(self):
        self.assertEqual(free_colours(3, (2, (1, 1, 1))), 2)
        self.assertEqual(free_colours(5, (2, (1, 1, 1))), 1)
        self.assertEqual(free_colours(5, (3, (1, -2, 1, -2))), 2)
        self.assertEqual(free_colours(3, (3, (1, 1, 1, 2, 2, 2))), 3)
        self.assertEqual(free_colours(3, (3, (1, 1, 1, -2, -2, -2))), 3)
        self.assertEqual(free_colours(3, (3, (1, 1, 1, 2))), 2)
        self.assertEqual(free_colours(5, (3, (1, 1, 1, 2, 2, 2))), 1)

    def test_all_primes(self):
        self.assertEqual(len(PRIMES), 24)
        for prime in PRIMES:
            for strands in range(1, 7):
                self.assertEqual(free_colours(prime, (strands, ())), strands)
                self.assertEqual(free_colours(prime, (strands, tuple(range(1, strands)))), 1)
            for many in range(17):
                for sign in (1, -1):
                    wanted = 2 if many % prime == 0 else 1
                    self.assertEqual(free_colours(prime, (2, (sign,) * many)), wanted)

    def test_as_many_rows_come_back(self):
        for plait in closed_plaits():
            for prime in (3, 5, 7):
                if prime ** plait[0] <= 2500:
                    wanted = prime ** free_colours(prime, plait)
                    self.assertEqual(len(colourings(ring_table(prime), plait)), wanted)

    def test_as_many_rows_come_back_round_any_prime(self):
        for plait in closed_plaits() + [(3, (1, 1, -2) * 5), (3, (-1, 2) * 8), (4, (1, -2, 3) * 5), (3, (1, 1, -2, -2) * 4)]:
            for prime in PRIMES:
                if prime ** (plait[0] - 1) <= 1400:
                    wanted = prime ** free_colours(prime, plait)
                    self.assertEqual(rows_by_numbers(prime, plait), wanted)

    def test_the_greatest_primes(self):
        for prime, plait in BY_GREAT_PRIMES:
            self.assertEqual(free_colours(prime, plait), 2)
            self.assertEqual(rows_by_numbers(prime, plait), prime ** 2)
            for other in PRIMES[-4:]:
                if other != prime:
                    self.assertEqual(free_colours(other, plait), 1)

    def test_what_is_no_odd_prime_up_to_97(self):
        wrong = [number for number in range(-210, 211) if number not in PRIMES]
        for number in wrong + FAR_NUMBERS + [2 ** 31 - 1, 997, 3 * 10 ** 29]:
            for plait in [(1, ()), (2, (1, 1, 1)), (6, (5,) * 16)]:
                refused(self, NoNumber, free_colours, number, plait)

    def test_no_plait_is_refused_ahead_of_the_number(self):
        for wrong in NO_PLAITS:
            for number in [3, 97, 2, 1, 0, -3, 9, 101] + FAR_NUMBERS:
                refused(self, NoPlait, free_colours, number, wrong)

    def test_each_move_keeps_them(self):
        for plait in small_plaits(2)[::5] + closed_plaits():
            for prime in (3, 5, 97):
                free = free_colours(prime, plait)
                for _, led in plain_moves(plait)[::5]:
                    self.assertEqual(free_colours(prime, led), free)

    def test_rows_of_moves_keep_them(self):
        for plait in closed_plaits() + [plait for _, plait in BY_GREAT_PRIMES]:
            free = [free_colours(prime, plait) for prime in PRIMES]
            for _, led in walk_moves(plait, plait[0] + 3 * len(plait[1]), 80)[::8]:
                self.assertEqual([free_colours(prime, led) for prime in PRIMES], free)


class RingTableTest(unittest.TestCase):
    """Point 63: the tables."""

    def test_one_to_seven(self):
        self.assertEqual(ring_table(1), ((0,),))
        self.assertEqual(ring_table(2), ((0, 0), (1, 1)))
        self.assertEqual(ring_table(3), ((0, 2, 1), (2, 1, 0), (1, 0, 2)))
        self.assertEqual(ring_table(4), ((0, 2, 0, 2), (3, 1, 3, 1), (2, 0, 2, 0), (1, 3, 1, 3)))
        for many in range(1, 8):
            self.assertEqual(ring_table(many), table_by(many, lambda a, b: (b + b - a) % many))
            self.assertEqual(coloured(ring_table(many), (1, ()), (0,)), (0,))

    def test_other_numbers(self):
        for many in [0, -1, -7, 8, 9, 97, 2500] + FAR_NUMBERS:
            refused(self, NoNumber, ring_table, many)


class HandedInTest(unittest.TestCase):
    """Point 1."""

    def test_what_is_told_is_the_askers_own(self):
        for plait in [(1, ()), (2, (1, 1, 1)), (4, (1, -2, 3)), (3, ())]:
            first = colourings(ring_table(3), plait)
            wanted = list(first)
            self.assertIs(type(first), list)
            self.assertIsNot(colourings(ring_table(3), plait), first)
            first.reverse()
            first.append(())
            self.assertEqual(colourings(ring_table(3), plait), wanted)

    def test_what_is_told_is_plain(self):
        for many in range(1, 8):
            plain(self, ring_table(many))
        for plait in closed_plaits():
            self.assertIs(type(free_colours(5, plait)), int)
            plain(self, coloured(ring_table(5), plait, (1,) * plait[0]))
            if plait[0] < 5:
                plain(self, tuple(colourings(ring_table(5), plait)))

    def test_nothing_is_left_by_a_refusal(self):
        first = colourings(FOUR, (3, (1, -2)))
        refused(self, NoRoom, colourings, FOUR, (6, ()))
        refused(self, NoTable, colourings, FOUR[::-1], (3, (1, -2)))
        refused(self, NoPlait, colourings, FOUR, (3, (3,)))
        self.assertEqual(colourings(FOUR, (3, (1, -2))), first)


if __name__ == "__main__":
    unittest.main()
