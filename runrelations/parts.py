"""What a text is made of, once it is read."""


class Phrase:
    """A step or a condition: its word, and the number behind it (None where it has none)."""

    def __init__(self, word, number):
        self.word = word
        self.number = number


class Relation:
    """A relation: its condition, the input's turning, how outputs stand, the output's turning."""

    def __init__(self, condition, input_turning, standing, output_turning):
        self.condition = condition
        self.input_turning = input_turning
        self.standing = standing
        self.output_turning = output_turning


class Text:
    """A whole text: its program, which is a list of steps, and its relations."""

    def __init__(self, program, relations):
        self.program = program
        self.relations = relations
