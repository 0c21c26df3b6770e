"""The calls on one object, handed in and answered as numbers."""

from runrelations.faults import Fault
from runrelations.forms import outcome_as_numbers
from runrelations.forms import rows_as_numbers
from runrelations.forms import shown_text
from runrelations.forms import text_as_numbers
from runrelations.handed import Handed
from runrelations.handed import row_handed
from runrelations.reading import text_read
from runrelations.running import outcome_of_run
from runrelations.running import rows_of_run

LONGEST_TEXT = 1500

TEXT_TOO_LONG = -1
NO_SUCH_RELATION = -2
NOT_A_ROW = -5
NO_TEXT = -8


class Held:
    """The one object: the text that was loaded last, None ahead of the first one."""

    def __init__(self):
        self.text = None


def has_relation(text, relation):
    """Whether a text has a relation with this number."""
    return 0 <= relation < len(text.relations)


def answer_load(held, handed):
    """Answers load."""
    given = handed.take_list()
    if len(given) > LONGEST_TEXT:
        return [TEXT_TOO_LONG]
    try:
        text = text_read(given)
    except Fault as fault:
        return [1, fault.kind, fault.place]
    held.text = text
    return [0, len(text.program), len(text.relations)]


def answer_shown(held, handed):
    """Answers shown."""
    if held.text is None:
        return [NO_TEXT]
    shown = shown_text(held.text)
    return [len(shown)] + shown


def answer_told(held, handed):
    """Answers told."""
    if held.text is None:
        return [NO_TEXT]
    return text_as_numbers(held.text)


def answer_run(held, handed):
    """Answers run."""
    row = row_handed(handed.take_list())
    if held.text is None:
        return [NO_TEXT]
    if row is None:
        return [NOT_A_ROW]
    return outcome_as_numbers(outcome_of_run(held.text.program, row))


def answer_rows(held, handed):
    """Answers rows."""
    row = row_handed(handed.take_list())
    if held.text is None:
        return [NO_TEXT]
    if row is None:
        return [NOT_A_ROW]
    return rows_as_numbers(rows_of_run(held.text.program, row))


def answer_turned(held, handed):
    """Answers turned."""
    relation = handed.take_number()
    row = row_handed(handed.take_list())
    if held.text is None:
        return [NO_TEXT]
    if not has_relation(held.text, relation):
        return [NO_SUCH_RELATION]
    if row is None:
        return [NOT_A_ROW]
    turning = held.text.relations[relation].input_turning
    return outcome_as_numbers(outcome_of_run(turning, row))


# Each call's number is its place here.
ANSWERS = (
    answer_load,
    answer_shown,
    answer_told,
    answer_run,
    answer_rows,
    answer_turned,
)


def answers(calls):
    """The answers to calls on a new object, one behind another, each with how many numbers it has ahead of it."""
    handed = Handed(calls)
    held = Held()
    answered = []
    while handed.is_left():
        answer = ANSWERS[handed.take_number()](held, handed)
        answered.append(len(answer))
        answered.extend(answer)
    return answered
