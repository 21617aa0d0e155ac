"""A desk: it keeps plaits by names, and is told and asked by lines."""

from loopwright.errors import BadNote, NoRoom, NoStep
from loopwright.form import form_of
from loopwright.letters import unlike
from loopwright.notes import read, shown
from loopwright.plaits import behind, flipped, mirrored, order_of, shorter, turned
from loopwright.powers import closed_sum

MOST_SIGNS_IN_NAME = 8

# How many names stand behind the first word of a line; keep, which has a plait too, is looked at by itself.
NAMES_BEHIND = {
    "drop": 1, "show": 1, "names": 0, "turned": 2, "mirrored": 2, "flipped": 2, "shorter": 2, "behind": 3, "same": 2,
    "order": 1, "form": 1, "closed": 1,
}

# Of these the first name is that of what comes of them.
MAKING = ("turned", "mirrored", "flipped", "shorter", "behind")


def is_name(word):
    """Tell whether a word is a name: 1 to 8 small letters."""
    return 1 <= len(word) <= MOST_SIGNS_IN_NAME and all(["a" <= sign <= "z" for sign in word])


def is_line(words):
    """Tell whether words, but for those of keep, are a line."""
    return NAMES_BEHIND.get(words[0]) == len(words) - 1 and all([is_name(word) for word in words[1:]])


def made(kind, given):
    """Make a plait of those that are given."""
    if kind == "turned":
        return turned(given[0])
    if kind == "mirrored":
        return mirrored(given[0])
    if kind == "flipped":
        return flipped(given[0])
    if kind == "shorter":
        return shorter(given[0])
    return behind(given[0], given[1])


def same_note(one, other):
    """Write whether two plaits are the same, or at which letter they are unlike."""
    paper = unlike(one, other)
    if paper is None:
        return "same"
    j = paper[0]
    return f"unlike at {j}"


def order_note(order):
    """Write the places of an order, counted from 1."""
    return "".join([str(place + 1) for place in order])


def form_note(form):
    """Write the power of a form, then its orders."""
    return " ".join([str(form[0])] + [order_note(order) for order in form[1]])


def counts_note(whole):
    """Write the counts of a sum from the power nought up to its greatest one."""
    if not whole:
        return "0"
    counts = dict(whole)
    return " ".join([str(counts.get(power, 0)) for power in range(whole[-1][0] + 1)])


def told_of(kind, given):
    """Write what is asked of the plaits that are given."""
    if kind == "show":
        return shown(given[0])
    if kind == "same":
        return same_note(given[0], given[1])
    if kind == "order":
        return order_note(order_of(given[0]))
    if kind == "form":
        return form_note(form_of(given[0]))
    return counts_note(closed_sum(given[0]))


class Desk:
    """Keeps plaits by names."""

    def __init__(self):
        self.kept = {}

    def plaits(self):
        """Tell the plaits that are kept, by their names."""
        return dict(self.kept)

    def say(self, line):
        """Do what a line tells, or answer what it asks."""
        words = line.split(" ")
        if words[0] == "keep":
            return self.keep(words[1:])
        if not is_line(words):
            return "bad line"
        if words[0] == "names":
            return " ".join(sorted(self.kept)) or "none"
        old = words[2:] if words[0] in MAKING else words[1:]
        if not all([name in self.kept for name in old]):
            return "no such name"
        try:
            return self.done(words[0], words[1], [self.kept[name] for name in old])
        except NoStep:
            return "unlike strands"
        except NoRoom:
            return "too long"

    def keep(self, words):
        """Keep what the words behind a name write."""
        if not words or not is_name(words[0]):
            return "bad line"
        try:
            self.kept[words[0]] = read(" ".join(words[1:]))
        except BadNote:
            return "bad line"
        return "kept"

    def done(self, kind, name, given):
        """Do or answer a line of which all names are there, by its first word, its first name and the plaits."""
        if kind == "drop":
            self.kept.pop(name)
            return "dropped"
        if kind in MAKING:
            self.kept[name] = made(kind, given)
            return "kept"
        return told_of(kind, given)
