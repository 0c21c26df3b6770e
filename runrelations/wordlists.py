"""The words of the grammar, each with the number that stands for it."""

STEP_NUMBERS = {
    "add": 0,
    "times": 1,
    "rest": 2,
    "abs": 3,
    "sort": 4,
    "reverse": 5,
    "rotate": 6,
    "take": 7,
    "drop": 8,
    "above": 9,
    "once": 10,
    "sum": 11,
    "greatest": 12,
    "least": 13,
    "count": 14,
    "steps": 15,
    "sums": 16,
    "twice": 17,
}

CONDITION_NUMBERS = {
    "any": 0,
    "some": 1,
    "rising": 2,
    "plus": 3,
    "unlike": 4,
    "atleast": 5,
}

STANDING_NUMBERS = {
    "equal": 0,
    "bag": 1,
    "numbers": 2,
    "most": 3,
    "least": 4,
    "begins": 5,
    "long": 6,
}

# The words that a number follows which may have a minus sign.
SIGNED_WORDS = ("add", "times", "above")

# The words that a number without a sign follows, each with the least that it may be.
LEAST_NUMBERS = {
    "rest": 1,
    "rotate": 0,
    "take": 0,
    "drop": 0,
    "atleast": 0,
}
