"""The calls on one object, handed in and answered as numbers."""

from runrelations.bounds import Bound
from runrelations.bounds import bound_handed
from runrelations.bounds import count_of_inputs
from runrelations.bounds import input_numbered
from runrelations.faults import Fault
from runrelations.forms import outcome_as_numbers
from runrelations.forms import row_as_numbers
from runrelations.forms import rows_as_numbers
from runrelations.forms import shown_text
from runrelations.forms import sides_as_numbers
from runrelations.forms import text_as_numbers
from runrelations.handed import Handed
from runrelations.handed import row_handed
from runrelations.judging import sides_at
from runrelations.judging import verdict_on
from runrelations.reading import text_read
from runrelations.running import outcome_of_run
from runrelations.running import rows_of_run

LONGEST_TEXT = 1500

TEXT_TOO_LONG = -1
NO_SUCH_RELATION = -2
NO_SUCH_INPUT = -3
NOT_A_ROW = -5
NOT_A_BOUND = -5
NO_TEXT = -8


class Held:
    """The one object: the text that was loaded last, None ahead of the first one, and the bound."""

    def __init__(self):
        self.text = None
        self.bound = Bound(0, 0, 0)


def has_relation(text, relation):
    """Whether a text has a relation with this number."""
    return 0 <= relation < len(text.relations)


def answer_load(held, handed):
    """Answers load."""
    given = handed.take_list()
    if len(given) > LONGEST_TEXT:
        return [TEXT_TOO_LONG]
    try:
        text = text_read(given)
    except Fault as fault:
        return [1, fault.kind, fault.place]
    held.text = text
    return [0, len(text.program), len(text.relations)]


def answer_shown(held, handed):
    """Answers shown."""
    if held.text is None:
        return [NO_TEXT]
    shown = shown_text(held.text)
    return [len(shown)] + shown


def answer_told(held, handed):
    """Answers told."""
    if held.text is None:
        return [NO_TEXT]
    return text_as_numbers(held.text)


def answer_run(held, handed):
    """Answers run."""
    row = row_handed(handed.take_list())
    if held.text is None:
        return [NO_TEXT]
    if row is None:
        return [NOT_A_ROW]
    return outcome_as_numbers(outcome_of_run(held.text.program, row))


def answer_rows(held, handed):
    """Answers rows."""
    row = row_handed(handed.take_list())
    if held.text is None:
        return [NO_TEXT]
    if row is None:
        return [NOT_A_ROW]
    return rows_as_numbers(rows_of_run(held.text.program, row))


def answer_at_relation(held, number, row, without_row, asked):
    """Answers what's asked of a text, one of its relations and a row; without a row that's refused as told."""
    if held.text is None:
        return [NO_TEXT]
    if not has_relation(held.text, number):
        return [NO_SUCH_RELATION]
    if row is None:
        return [without_row]
    return asked(held.text.program, held.text.relations[number], row)


def answer_at_row_handed(held, handed, asked):
    """Answers what's asked of a text, and of the relation and the row that are handed in next."""
    number = handed.take_number()
    row = row_handed(handed.take_list())
    return answer_at_relation(held, number, row, NOT_A_ROW, asked)


def turned_asked(program, relation, row):
    """What turned is to tell."""
    return outcome_as_numbers(outcome_of_run(relation.input_turning, row))


def sides_asked(program, relation, row):
    """What sides is to tell."""
    return sides_as_numbers(sides_at(program, relation, row))


def verdict_asked(program, relation, row):
    """What verdict is to tell."""
    return [verdict_on(relation, sides_at(program, relation, row))]


def both_asked(program, relation, row):
    """What at is to tell: as verdict, then as sides."""
    return verdict_asked(program, relation, row) + sides_asked(program, relation, row)


def answer_turned(held, handed):
    """Answers turned."""
    return answer_at_row_handed(held, handed, turned_asked)


def answer_sides(held, handed):
    """Answers sides."""
    return answer_at_row_handed(held, handed, sides_asked)


def answer_verdict(held, handed):
    """Answers verdict."""
    return answer_at_row_handed(held, handed, verdict_asked)


def answer_bound(held, handed):
    """Answers bound."""
    length = handed.take_number()
    low = handed.take_number()
    high = handed.take_number()
    bound = bound_handed(length, low, high)
    if bound is None:
        return [NOT_A_BOUND]
    held.bound = bound
    return [count_of_inputs(bound)]


def answer_input(held, handed):
    """Answers input."""
    row = input_numbered(held.bound, handed.take_number())
    if row is None:
        return [NO_SUCH_INPUT]
    return row_as_numbers(row)


def answer_at(held, handed):
    """Answers at."""
    number = handed.take_number()
    row = input_numbered(held.bound, handed.take_number())
    return answer_at_relation(held, number, row, NO_SUCH_INPUT, both_asked)


# Each call's number is its place here.
ANSWERS = (
    answer_load,
    answer_shown,
    answer_told,
    answer_run,
    answer_rows,
    answer_turned,
    answer_sides,
    answer_verdict,
    answer_bound,
    answer_input,
    answer_at,
)


def answers(calls):
    """The answers to calls on a new object, one behind another, each with how many numbers it has ahead of it."""
    handed = Handed(calls)
    held = Held()
    answered = []
    while handed.is_left():
        answer = ANSWERS[handed.take_number()](held, handed)
        answered.append(len(answer))
        answered.extend(answer)
    return answered
