"""Sums of powers: tuples of tuples (power, count), rising by powers, each power once, no count nought."""

NOUGHT = ()
ONE = ((0, 1),)
LESS_ONE = ((0, -1),)


def without_noughts(counts):
    """Tell the sum of which a dict tells the counts by the powers."""
    return tuple([(power, counts[power]) for power in sorted(counts) if counts[power] != 0])


def added(one, other):
    """Add two sums."""
    counts = dict(one)
    for power, count in other:
        counts[power] = counts.get(power, 0) + count
    return without_noughts(counts)


def multiplied(one, other):
    """Multiply two sums."""
    counts = {}
    for power, count in one:
        for other_power, other_count in other:
            both = power + other_power
            counts[both] = counts.get(both, 0) + count * other_count
    return without_noughts(counts)
