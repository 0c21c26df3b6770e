"""Programs done on rows, step by step."""

MOST_NUMBERS = 40
GREATEST_NUMBER = 1000000


def added(row, number):
    """Each number plus the given one."""
    return [one + number for one in row]


def multiplied(row, number):
    """Each number times the given one."""
    return [one * number for one in row]


def rests(row, number):
    """What each number is above the greatest multiple of the given one that isn't above it."""
    return [one % number for one in row]


def unsigned(row):
    """Each number without its sign."""
    return [abs(one) for one in row]


def rising(row):
    """The numbers rising."""
    return sorted(row)


def turned_round(row):
    """The row turned round."""
    return row[::-1]


def rotated(row, number):
    """The row with its first numbers behind the others."""
    if len(row) == 0:
        return []
    moved = number % len(row)
    return row[moved:] + row[:moved]


def taken(row, number):
    """The first numbers, so many."""
    return row[:number]


def dropped(row, number):
    """All but the first numbers."""
    return row[number:]


def those_above(row, number):
    """The numbers above the given one."""
    return [one for one in row if one > number]


def each_once(row):
    """Each number once, where it first stands."""
    kept = []
    for one in row:
        if one not in kept:
            kept.append(one)
    return kept


def sum_alone(row):
    """The sum, in a row by itself."""
    return [sum(row)]


def greatest_alone(row):
    """The greatest number in a row by itself; of no numbers none."""
    return rising(row)[-1:]


def least_alone(row):
    """The least number in a row by itself; of no numbers none."""
    return rising(row)[:1]


def count_alone(row):
    """How many numbers there are, in a row by itself."""
    return [len(row)]


def differences(row):
    """For each two neighbours the second one less the first one."""
    return [row[place + 1] - row[place] for place in range(len(row) - 1)]


def running_sums(row):
    """For each number the sum of it and all before it."""
    sums = []
    so_far = 0
    for one in row:
        so_far += one
        sums.append(so_far)
    return sums


def doubled(row):
    """The row, and behind it the row again."""
    return row + row


NUMBERED_STEPS = {
    "add": added,
    "times": multiplied,
    "rest": rests,
    "rotate": rotated,
    "take": taken,
    "drop": dropped,
    "above": those_above,
}

PLAIN_STEPS = {
    "abs": unsigned,
    "sort": rising,
    "reverse": turned_round,
    "once": each_once,
    "sum": sum_alone,
    "greatest": greatest_alone,
    "least": least_alone,
    "count": count_alone,
    "steps": differences,
    "sums": running_sums,
    "twice": doubled,
}


def step_done(step, row):
    """What comes of one step on a row."""
    if step.number is None:
        return PLAIN_STEPS[step.word](row)
    return NUMBERED_STEPS[step.word](row, step.number)


def is_beyond(row):
    """Whether a row has too many numbers, or one that's too far from 0."""
    return len(row) > MOST_NUMBERS or any([abs(one) > GREATEST_NUMBER for one in row])


def rows_of_run(program, row):
    """The row itself, then what comes of each step, ahead of the first one that's beyond."""
    rows = [row]
    for step in program:
        done = step_done(step, rows[-1])
        if is_beyond(done):
            return rows
        rows.append(done)
    return rows


def outcome_of_run(program, row):
    """What comes of a program's last step, or None if the run is beyond."""
    rows = rows_of_run(program, row)
    if len(rows) <= len(program):
        return None
    return rows[-1]
