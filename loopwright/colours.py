"""Colours: tables that tell what a colour is under another one, and rows of colours that go down plaits."""

from loopwright.errors import NoNumber, NoRoom, NoTable
from loopwright.plaits import looked

MOST_COLOURS = 7
MOST_ROWS = 2500
MOST_PRIME = 97


def has_form(table):
    """Tell whether there are 1 to 7 rows, as long as they are many."""
    many = len(table)
    return 1 <= many <= MOST_COLOURS and all([len(row) == many for row in table])


def keeps_third_rule(table, c):
    """Tell whether a under b, under a colour c, is always what a under c is under (b under c)."""
    for a, row in enumerate(table):
        for b, under in enumerate(row):
            if table[under][c] != table[table[a][c]][table[b][c]]:
                return False
    return True


def is_table(table):
    """Tell whether a tuple of tuples of whole numbers is a table of colours."""
    if not has_form(table):
        return False
    colours = list(range(len(table)))
    # The third rule is looked at last: it needs all that stands in the table to be colours, as the second one tells.
    for colour in colours:
        if table[colour][colour] != colour or sorted([row[colour] for row in table]) != colours:
            return False
    return all([keeps_third_rule(table, colour) for colour in colours])


def looked_table(table):
    """Refuse what is no table of colours."""
    if not is_table(table):
        raise NoTable("not a table of 1 to 7 colours that keeps the three rules")


def undone(table):
    """Tell by the tuples (d, c) the colour that under c is d."""
    colour_by = {}
    for a, row in enumerate(table):
        for c, d in enumerate(row):
            colour_by[(d, c)] = a
    return colour_by


def led_down(table, colour_by, word, colours):
    """Tell the colours to which some come behind a word, by a table and by what undoes it."""
    row = list(colours)
    for letter in word:
        at = abs(letter) - 1
        left = row[at]
        right = row[at + 1]
        if letter > 0:
            row[at] = right
            row[at + 1] = table[left][right]
        else:
            row[at] = colour_by[(right, left)]
            row[at + 1] = left
    return tuple(row)


def coloured(table, plait, colours):
    """Tell the colours behind a plait."""
    looked(plait)
    looked_table(table)
    if len(colours) != plait[0] or not all([0 <= colour < len(table) for colour in colours]):
        raise NoTable("not a colour of the table for each place")
    return led_down(table, undone(table), plait[1], colours)


def all_rows(many, places):
    """Tell all rows of so many colours for so many places, rising; refuse more than 2,500 of them."""
    rows = [()]
    for place in range(places):
        # A further place makes no fewer rows, so none are left out where it is refused here already.
        if len(rows) * many > MOST_ROWS:
            raise NoRoom("there are more than 2,500 rows of colours")
        longer = []
        for row in rows:
            longer.extend([row + (colour,) for colour in range(many)])
        rows = longer
    return rows


def colourings(table, plait):
    """Tell all rows of colours that come back, rising."""
    looked(plait)
    looked_table(table)
    colour_by = undone(table)
    return [row for row in all_rows(len(table), plait[0]) if led_down(table, colour_by, plait[1], row) == row]


def is_odd_prime(number):
    """Tell whether a number is an odd prime up to 97."""
    if not 3 <= number <= MOST_PRIME:
        return False
    return all([number % other != 0 for other in range(2, number)])


def twice_less(row, other):
    """Tell twice a row less the other one, number by number."""
    return [2 * here - there for here, there in zip(row, other)]


def shares_behind(plait):
    """Tell for each place how often each beginning colour goes into the one behind the plait, by numbers."""
    strands = plait[0]
    rows = [[int(place == other) for other in range(strands)] for place in range(strands)]
    for letter in plait[1]:
        at = abs(letter) - 1
        pair = [rows[at], rows[at + 1]]
        # By numbers, what undoes twice b less a is the same once more.
        if letter > 0:
            rows[at] = pair[1]
            rows[at + 1] = twice_less(pair[1], pair[0])
        else:
            rows[at] = twice_less(pair[0], pair[1])
            rows[at + 1] = pair[0]
    return rows


def cleared(row, first, column, prime):
    """Make the number at a column nought, round a prime: so often the row, less so often the first one."""
    return [(here * first[column] - there * row[column]) % prime for here, there in zip(row, first)]


def rank_of(rows, prime):
    """Tell how many rows of numbers are left, round a prime, without those that come of the others."""
    rank = 0
    for column in range(len(rows)):
        found = [row for row in rows if row[column] % prime != 0]
        if found:
            rank += 1
            # The first one found is made nought throughout, so it isn't counted once more.
            rows = [cleared(row, found[0], column, prime) for row in rows]
    return rank


def free_colours(prime, plait):
    """Tell how many colours are free where rows come back, by numbers round an odd prime up to 97."""
    looked(plait)
    if not is_odd_prime(prime):
        raise NoNumber("no odd prime up to 97")
    rows = shares_behind(plait)
    for place in range(len(rows)):
        rows[place][place] -= 1
    return plait[0] - rank_of(rows, prime)


def ring_table(many):
    """Tell the table by numbers round so many: a under b is twice b less a."""
    if not 1 <= many <= MOST_COLOURS:
        raise NoNumber("no number from 1 to 7")
    return tuple([tuple([(2 * b - a) % many for b in range(many)]) for a in range(many)])
