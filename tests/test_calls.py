"""The calls on one object: refusals and their order, and how calls are handed in and answered."""

import unittest

from helper import (
    EXAMPLE, answer_behind, ask, listed, load, rows, rows_list, run, run_list, shown, told, turned, turned_list,
)
from runrelations.relations import answers

FAR = 10 ** 18

# Lists that aren't whole a row of at most 8 numbers, each from -99 to 99.
NO_ROWS = (
    [],
    [1],
    [2, 5],
    [0, 5],
    [1, 5, 5],
    [-1],
    [-1, 5],
    [3, 1, 2],
    [9, 1, 2, 3, 4, 5, 6, 7, 8, 9],
    [9, 1, 2, 3, 4, 5, 6, 7, 8],
    [8, 1, 2, 3, 4, 5, 6, 7],
    [8, 1, 2, 3, 4, 5, 6, 7, 8, 9],
    [19] + [0] * 19,
    [20] + [0] * 19,
    [0] * 20,
    [1, 100],
    [1, -100],
    [3, 0, 100, 0],
    [3, 0, 0, -100],
    [8, 1, 2, 3, 4, 5, 6, 7, 100],
    [FAR],
    [-FAR],
    [1, FAR],
    [1, -FAR],
)
ROWS = (
    [0],
    [1, 99],
    [1, -99],
    [8, 1, 2, 3, 4, 5, 6, 7, 8],
    [8, 99, -99, 99, -99, 99, -99, 99, -99],
)
TEXT = "program ( ); relation any input ( ) output equal ( );"


class Refusals(unittest.TestCase):
    def test_lists_that_are_no_row(self):
        for numbers in NO_ROWS:
            with self.subTest(numbers):
                self.assertEqual(answer_behind(TEXT, run_list(numbers)), [-5])
                self.assertEqual(answer_behind(TEXT, rows_list(numbers)), [-5])
                self.assertEqual(answer_behind(TEXT, turned_list(0, numbers)), [-5])

    def test_lists_that_are_rows(self):
        for numbers in ROWS:
            with self.subTest(numbers):
                self.assertEqual(answer_behind(TEXT, run_list(numbers)), [1, *numbers])
                self.assertEqual(answer_behind(TEXT, rows_list(numbers)), [1, *numbers])
                self.assertEqual(answer_behind(TEXT, turned_list(0, numbers)), [1, *numbers])

    def test_no_such_relation(self):
        for relation in (-1, 3, 4, -3, 11, FAR, -FAR):
            with self.subTest(relation):
                self.assertEqual(answer_behind(EXAMPLE, turned(relation, 1)), [-2])
        self.assertEqual(answer_behind("program ( );", turned(0, 1)), [-2])

    def test_without_a_text(self):
        for call in (shown(), told(), run(1), rows(1), turned(0, 1)):
            with self.subTest(call):
                self.assertEqual(ask(call), [[-8]])

    def test_no_text_goes_ahead_of_all(self):
        for numbers in NO_ROWS:
            with self.subTest(numbers):
                calls = (run_list(numbers), rows_list(numbers), turned_list(0, numbers), turned_list(-1, numbers))
                self.assertEqual(ask(*calls), [[-8]] * 4)

    def test_no_such_relation_goes_ahead_of_no_row(self):
        for numbers in NO_ROWS:
            with self.subTest(numbers):
                self.assertEqual(answer_behind(EXAMPLE, turned_list(3, numbers)), [-2])
                self.assertEqual(answer_behind(EXAMPLE, turned_list(-1, numbers)), [-2])

    def test_a_row_is_looked_at_ahead_of_the_run(self):
        text = "program ( times 99 times 99 times 99 );"
        self.assertEqual(answer_behind(text, run(99)), [0])
        self.assertEqual(answer_behind(text, run(100)), [-5])

    def test_nothing_changes(self):
        refused = (run_list([1]), rows_list([1]), turned(9, 1), turned_list(0, [1]))
        apart = ask(load(EXAMPLE), told(), *refused, told(), shown(), run(3, 4))
        self.assertEqual(apart[2:6], [[-5], [-5], [-2], [-5]])
        self.assertEqual(apart[6], apart[1])
        self.assertEqual(apart[8], [1, 2, 3, 4])


class HandedIn(unittest.TestCase):
    def test_example(self):
        text = list(EXAMPLE.encode("ascii"))
        calls = [0, len(text), *text, 3, 4, 3, -3, 1, 2, 4, 4, 3, -3, 1, 2, 5, 0, 3, 2, 4, 5]
        made = [3, 0, 3, 3]
        made += [4, 1, 2, 1, 2]
        made += [16, 4, 3, -3, 1, 2, 3, 3, 1, 2, 3, 1, 2, 3, 2, 1, 2]
        made += [4, 1, 2, 5, 4]
        self.assertEqual(answers(calls), made)

    def test_shown_and_told(self):
        calls = [1, 2, *load("program();"), 1, 2]
        form = list(b"program ( );\n")
        self.assertEqual(answers(calls), [1, -8, 1, -8, 3, 0, 0, 0, 14, 13, *form, 2, 0, 0])

    def test_lists_without_numbers(self):
        calls = [0, 0, *load(TEXT), 3, 0, 4, 0, 5, 0, 0, 3, 1, 0, 4, 1, 0, 5, 0, 1, 0]
        made = [3, 1, 2, 0, 3, 0, 0, 1, 1, -5, 1, -5, 1, -5, 2, 1, 0, 2, 1, 0, 2, 1, 0]
        self.assertEqual(answers(calls), made)

    def test_sixty_calls(self):
        calls = [load(EXAMPLE)] + [run(k, -k) for k in range(59)]
        apart = ask(*calls)
        self.assertEqual(apart[1:], [[1, 2, k, k] for k in range(59)])

    def test_what_is_handed_in_stays(self):
        calls = load(EXAMPLE) + shown() + told() + run(3, 1, 2) + rows(3, 1, 2) + turned(0, 3, 1, 2)
        copied = list(calls)
        answers(calls)
        self.assertEqual(calls, copied)

    def test_rows_without_steps_stay(self):
        calls = load(TEXT) + run(3, 1, 2) + rows(3, 1, 2) + turned(0, 3, 1, 2)
        copied = list(calls)
        made = answers(calls)
        made.clear()
        self.assertEqual(calls, copied)

    def test_nothing_is_kept(self):
        first = answers(load(EXAMPLE) + told())
        self.assertEqual(answers(told()), [1, -8])
        self.assertEqual(answers(load(EXAMPLE) + told()), first)

    def test_what_is_given_back_is_new(self):
        calls = load(TEXT) + run(1, 2)
        answers(calls).append(7)
        self.assertEqual(answers(calls), [3, 0, 0, 1, 4, 1, 2, 1, 2])

    def test_kinds(self):
        steps = "add 1 times 2 rest 5 abs sort reverse rotate 1 take 5"
        more = "drop 1 above 0 once sums steps twice count sum"
        calls = load(f"program ( {steps} ); relation any input ( {more} ) output long ( greatest least );")
        calls += shown() + told() + run(3, 1, 2) + rows(3, 1, 2) + turned(0, 3, 1, 2) + run_list([])
        made = answers(calls)
        self.assertIs(type(made), list)
        self.assertEqual({type(number) for number in made}, {int})


class TheObject(unittest.TestCase):
    def test_the_text_of_the_last_load_counts(self):
        apart = ask(
            load("program ( add 1 );"), run(5), load("program ( add 2 );"), run(5), load("?"), run(5), load(TEXT), run(5),
        )
        self.assertEqual(apart[1::2], [[1, 1, 6], [1, 1, 7], [1, 1, 7], [1, 1, 5]])

    def test_relations_are_those_of_the_text(self):
        apart = ask(load(EXAMPLE), turned(2, 5), load(TEXT), turned(2, 5), turned(0, 5))
        self.assertEqual(apart[1], [1, 1, 6])
        self.assertEqual(apart[3:], [[-2], [1, 1, 5]])

    def test_calls_are_told_apart(self):
        self.assertEqual(listed([4, 5]), [2, 4, 5])
        text = "program ( sum ); relation any input ( count ) output equal ( );"
        apart = ask(load(text), run(4, 5), rows(4, 5), turned(0, 4, 5))
        self.assertEqual(apart[1:], [[1, 1, 9], [2, 2, 4, 5, 1, 9], [1, 1, 2]])


if __name__ == "__main__":
    unittest.main()
