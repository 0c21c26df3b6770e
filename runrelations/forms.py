"""The one form of a text, and what is told as numbers."""

from runrelations.wordlists import CONDITION_NUMBERS
from runrelations.wordlists import STANDING_NUMBERS
from runrelations.wordlists import STEP_NUMBERS


def shown_phrase(phrase):
    """A step or a condition in the one form."""
    if phrase.number is None:
        return phrase.word
    return phrase.word + " " + str(phrase.number)


def shown_steps(steps):
    """A program or a turning in the one form, with its brackets."""
    return " ".join(["("] + [shown_phrase(step) for step in steps] + [")"])


def shown_relation(relation):
    """A relation in the one form, without its semicolon."""
    words = [
        "relation",
        shown_phrase(relation.condition),
        "input",
        shown_steps(relation.input_turning),
        "output",
        relation.standing,
        shown_steps(relation.output_turning),
    ]
    return " ".join(words)


def shown_text(text):
    """The one form of a text, as a list of bytes."""
    lines = ["program " + shown_steps(text.program)]
    for relation in text.relations:
        lines.append(shown_relation(relation))
    written = "".join([line + ";\n" for line in lines])
    return [ord(sign) for sign in written]


def own_number(phrase):
    """The number of a step or a condition in a list, which is empty where it has none."""
    if phrase.number is None:
        return []
    return [phrase.number]


def steps_as_numbers(steps):
    """A program or a turning: how many steps, they."""
    numbers = [len(steps)]
    for step in steps:
        numbers.append(STEP_NUMBERS[step.word])
        numbers.extend(own_number(step))
    return numbers


def relation_as_numbers(relation):
    """A relation: the condition, the input's turning, how outputs stand, the output's turning."""
    numbers = [CONDITION_NUMBERS[relation.condition.word]]
    numbers.extend(own_number(relation.condition))
    numbers.extend(steps_as_numbers(relation.input_turning))
    numbers.append(STANDING_NUMBERS[relation.standing])
    numbers.extend(steps_as_numbers(relation.output_turning))
    return numbers


def text_as_numbers(text):
    """A text: the program; how many relations, they."""
    numbers = steps_as_numbers(text.program)
    numbers.append(len(text.relations))
    for relation in text.relations:
        numbers.extend(relation_as_numbers(relation))
    return numbers


def row_as_numbers(row):
    """A row: how many numbers, they."""
    return [len(row)] + row


def rows_as_numbers(rows):
    """Rows: how many, they."""
    numbers = [len(rows)]
    for row in rows:
        numbers.extend(row_as_numbers(row))
    return numbers


def outcome_as_numbers(outcome):
    """An outcome: 1 and the row; or 0, if there's none."""
    if outcome is None:
        return [0]
    return [1] + row_as_numbers(outcome)


def sides_as_numbers(sides):
    """Sides: 1, the left one, the right one; or 0, if there are none."""
    if sides is None:
        return [0]
    return [1] + row_as_numbers(sides.left) + row_as_numbers(sides.right)
