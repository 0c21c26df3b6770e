"""Relations at an input: whether their conditions are so, their sides, how these stand, and the verdict."""

from runrelations.running import outcome_of_run

KEPT = 0
BROKEN = 1
OFF = 2


class Sides:
    """The two sides of a program at an input."""

    def __init__(self, left, right):
        self.left = left
        self.right = right


def is_whatever(row):
    """What is so of any row."""
    return True


def has_numbers(row):
    """Whether a row has numbers."""
    return len(row) > 0


def is_rising(row):
    """Whether no number of a row is above the one behind it."""
    return row == sorted(row)


def has_none_below_zero(row):
    """Whether no number of a row is below 0."""
    return all([one >= 0 for one in row])


def has_none_twice(row):
    """Whether no number stands twice in a row."""
    return len(set(row)) == len(row)


def are_equal(first, second):
    """Whether two rows are the same."""
    return first == second


def are_one_bag(first, second):
    """Whether two rows have the same numbers, each as often."""
    return sorted(first) == sorted(second)


def have_the_same_numbers(first, second):
    """Whether each number of either row is one of the other."""
    return set(first) == set(second)


def are_as_long(first, second):
    """Whether two rows have as many numbers."""
    return len(first) == len(second)


def is_at_most(first, second):
    """Whether two rows are as long, and each number of the first one is at most that at its place in the other."""
    return are_as_long(first, second) and all([one <= other for one, other in zip(first, second)])


def is_at_least(first, second):
    """Whether two rows are as long, and each number of the first one is at least that at its place in the other."""
    return is_at_most(second, first)


def begins_the_other(first, second):
    """Whether the second row begins with the first one."""
    return second[:len(first)] == first


PLAIN_CONDITIONS = {
    "any": is_whatever,
    "some": has_numbers,
    "rising": is_rising,
    "plus": has_none_below_zero,
    "unlike": has_none_twice,
}

STANDINGS = {
    "equal": are_equal,
    "bag": are_one_bag,
    "numbers": have_the_same_numbers,
    "most": is_at_most,
    "least": is_at_least,
    "begins": begins_the_other,
    "long": are_as_long,
}


def is_so(condition, row):
    """Whether a condition is so of a row."""
    # Of the conditions atleast alone has a number.
    if condition.number is None:
        return PLAIN_CONDITIONS[condition.word](row)
    return len(row) >= condition.number


def outcome_of_both(first, second, row):
    """What the second program makes of what the first one makes of a row; None if one of the two runs is beyond."""
    between = outcome_of_run(first, row)
    if between is None:
        return None
    return outcome_of_run(second, between)


def sides_at(program, relation, row):
    """The sides of a program at an input; None if the relation is off there."""
    if not is_so(relation.condition, row):
        return None
    left = outcome_of_both(relation.input_turning, program, row)
    right = outcome_of_both(program, relation.output_turning, row)
    if left is None or right is None:
        return None
    return Sides(left, right)


def verdict_on(relation, sides):
    """The verdict on a relation where it has these sides, or None if it's off."""
    if sides is None:
        return OFF
    if STANDINGS[relation.standing](sides.left, sides.right):
        return KEPT
    return BROKEN
