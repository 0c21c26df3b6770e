"""Bounds, and the inputs that lie within them."""

LONGEST_INPUT = 8
FARTHEST_NUMBER = 99
MOST_INPUTS = 1500


class Bound:
    """All rows of up to so many numbers, each of them from the low one to the high one."""

    def __init__(self, length, low, high):
        self.length = length
        self.low = low
        self.high = high


def choices(bound):
    """How many numbers may stand at a place of an input."""
    return bound.high - bound.low + 1


def counts_by_length(bound):
    """How many inputs there are of each length, from 0 on."""
    counts = [1]
    while len(counts) <= bound.length:
        counts.append(counts[-1] * choices(bound))
    return counts


def count_of_inputs(bound):
    """How many inputs there are."""
    return sum(counts_by_length(bound))


def bound_handed(length, low, high):
    """The bound that's told so; None if it's none or has too many inputs."""
    if not 0 <= length <= LONGEST_INPUT or not -FARTHEST_NUMBER <= low <= high <= FARTHEST_NUMBER:
        return None
    bound = Bound(length, low, high)
    if count_of_inputs(bound) > MOST_INPUTS:
        return None
    return bound


def row_numbered(bound, length, number):
    """Of the inputs with this length, the one with this number among them."""
    # The last place changes fastest, so the places come to hand from behind.
    row = []
    left = number
    while len(row) < length:
        row.append(bound.low + left % choices(bound))
        left //= choices(bound)
    return row[::-1]


def input_numbered(bound, number):
    """The input with this number; None if there's none."""
    if number < 0:
        return None
    left = number
    for length, count in enumerate(counts_by_length(bound)):
        if left < count:
            return row_numbered(bound, length, left)
        left -= count
    return None
