"""Reads a text by the grammar, from left to right."""

from runrelations.faults import Fault
from runrelations.parts import Phrase
from runrelations.parts import Relation
from runrelations.parts import Text
from runrelations.tokens import tokens_of
from runrelations.wordlists import CONDITION_NUMBERS
from runrelations.wordlists import LEAST_NUMBERS
from runrelations.wordlists import SIGNED_WORDS
from runrelations.wordlists import STANDING_NUMBERS
from runrelations.wordlists import STEP_NUMBERS

MOST_STEPS = 8
MOST_RELATIONS = 12
GREATEST_UNSIGNED = 9


class Reader:
    """Goes through tokens, whose last one is the text's end; raises Fault at what can't be read."""

    def __init__(self, tokens):
        self.tokens = tokens
        self.past = 0

    def ahead(self):
        """What the next token says."""
        return self.tokens[self.past].said

    def fail(self, kind):
        """Raises a fault at the next token."""
        raise Fault(kind, self.tokens[self.past].place)

    def go_past(self):
        """What the next token says, and goes past it."""
        said = self.ahead()
        self.past += 1
        return said

    def expect(self, said):
        """Goes past the next token, which has to say this."""
        if self.ahead() != said:
            self.fail(2)
        self.past += 1

    def read_number(self):
        """A number without a sign."""
        if not self.ahead().isdigit():
            self.fail(2)
        return int(self.go_past())

    def read_unsigned(self, least):
        """A number without a sign that's neither below the least nor above the greatest one."""
        if self.ahead().isdigit() and not least <= int(self.ahead()) <= GREATEST_UNSIGNED:
            self.fail(3)
        return self.read_number()

    def read_signed(self):
        """A number, perhaps with a minus sign ahead of it."""
        if self.ahead() != "-":
            return self.read_number()
        # The text's end is a token too, so one always stands behind the minus sign.
        if self.tokens[self.past + 1].said == "0":
            self.fail(3)
        self.expect("-")
        return -self.read_number()

    def read_phrase(self):
        """A step or a condition, whose word is next."""
        word = self.go_past()
        if word in SIGNED_WORDS:
            return Phrase(word, self.read_signed())
        if word in LEAST_NUMBERS:
            return Phrase(word, self.read_unsigned(LEAST_NUMBERS[word]))
        return Phrase(word, None)

    def read_steps(self):
        """The steps of a program or of a turning, in brackets."""
        self.expect("(")
        steps = []
        while self.ahead() in STEP_NUMBERS:
            if len(steps) == MOST_STEPS:
                self.fail(4)
            steps.append(self.read_phrase())
        self.expect(")")
        return steps

    def read_condition(self):
        """A relation's condition."""
        if self.ahead() not in CONDITION_NUMBERS:
            self.fail(2)
        return self.read_phrase()

    def read_standing(self):
        """The word for how a relation's outputs stand."""
        if self.ahead() not in STANDING_NUMBERS:
            self.fail(2)
        return self.go_past()

    def read_relation(self):
        """A relation, up to its semicolon."""
        self.expect("relation")
        condition = self.read_condition()
        self.expect("input")
        input_turning = self.read_steps()
        self.expect("output")
        standing = self.read_standing()
        output_turning = self.read_steps()
        self.expect(";")
        return Relation(condition, input_turning, standing, output_turning)

    def read_text(self):
        """A whole text."""
        self.expect("program")
        program = self.read_steps()
        self.expect(";")
        relations = []
        while self.ahead() == "relation":
            if len(relations) == MOST_RELATIONS:
                self.fail(4)
            relations.append(self.read_relation())
        if self.ahead() != "":
            self.fail(2)
        return Text(program, relations)


def text_read(text):
    """What a text, a list of bytes, says; raises Fault if it has one."""
    # All tokens are made before any is read, since fault 1 goes ahead of all others.
    return Reader(tokens_of(text)).read_text()
