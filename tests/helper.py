"""Hands calls to the program and takes its answers apart."""

from runrelations.relations import answers

EXAMPLE = (
    "program ( abs sort take 2 ); "
    "relation any input ( reverse ) output equal ( ); "
    "relation some input ( times -1 ) output equal ( ); "
    "relation any input ( add 1 ) output least ( );"
)


def listed(numbers):
    return [len(numbers), *numbers]


def load(text):
    """A load of a text, or of a list of bytes."""
    if isinstance(text, str):
        text = list(text.encode("ascii"))
    return [0, *listed(text)]


def shown():
    return [1]


def told():
    return [2]


def run(*row):
    return run_list(listed(row))


def run_list(numbers):
    """A run of a list that need not be a row."""
    return [3, *listed(numbers)]


def rows(*row):
    return rows_list(listed(row))


def rows_list(numbers):
    return [4, *listed(numbers)]


def turned(relation, *row):
    return turned_list(relation, listed(row))


def turned_list(relation, numbers):
    return [5, relation, *listed(numbers)]


def sides(relation, *row):
    return sides_list(relation, listed(row))


def sides_list(relation, numbers):
    return [6, relation, *listed(numbers)]


def verdict(relation, *row):
    return verdict_list(relation, listed(row))


def verdict_list(relation, numbers):
    return [7, relation, *listed(numbers)]


def bound(length, low, high):
    return [8, length, low, high]


def nth(number):
    """A call of the input with this number."""
    return [9, number]


def at(relation, number):
    return [10, relation, number]


def one_relation(condition="any", turning="", standing="equal", output="", program=""):
    """A text with one relation."""
    return f"program ( {program} ); relation {condition} input ( {turning} ) output {standing} ( {output} );"


def ask(*calls):
    """The answers to calls on one object, a list for each call."""
    told_at_once = answers([number for call in calls for number in call])
    apart = []
    while told_at_once:
        count = told_at_once[0]
        if count < 1 or len(told_at_once) <= count:
            raise AssertionError(f"an answer of {count} numbers, with {told_at_once[1:]} behind it")
        apart.append(told_at_once[1:1 + count])
        told_at_once = told_at_once[1 + count:]
    if len(apart) != len(calls):
        raise AssertionError(f"{len(calls)} calls, {len(apart)} answers")
    return apart


def answer_behind(text, *calls):
    """The answer to the last of the calls, on an object with this text, which has no fault."""
    apart = ask(load(text), *calls)
    if apart[0][0] != 0:
        raise AssertionError(f"{text!r} answers {apart[0]}")
    return apart[-1]


def loaded(text):
    """The answer to a load alone."""
    return ask(load(text))[0]


def shown_as_text(text):
    """The one form of a text, as Python's text."""
    answer = answer_behind(text, shown())
    if answer[0] != len(answer) - 1:
        raise AssertionError(f"{answer[0]} bytes told, {len(answer) - 1} given")
    return bytes(answer[1:]).decode("ascii")
