"""The calls on one object: refusals and their order, and how calls are handed in and answered."""

import unittest

from helper import (
    EXAMPLE, answer_behind, ask, at, bound, listed, load, nth, rows, rows_list, run, run_list, shown, sides, sides_list,
    told, turned, turned_list, verdict, verdict_list,
)
from runrelations.relations import answers

FAR = 10 ** 18

# Lists that aren't whole a row of at most 8 numbers, each from -99 to 99.
NO_ROWS = (
    [],
    [1],
    [2, 5],
    [0, 5],
    [1, 5, 5],
    [-1],
    [-1, 5],
    [3, 1, 2],
    [9, 1, 2, 3, 4, 5, 6, 7, 8, 9],
    [9, 1, 2, 3, 4, 5, 6, 7, 8],
    [8, 1, 2, 3, 4, 5, 6, 7],
    [8, 1, 2, 3, 4, 5, 6, 7, 8, 9],
    [19] + [0] * 19,
    [20] + [0] * 19,
    [0] * 20,
    [1, 100],
    [1, -100],
    [3, 0, 100, 0],
    [3, 0, 0, -100],
    [8, 1, 2, 3, 4, 5, 6, 7, 100],
    [FAR],
    [-FAR],
    [1, FAR],
    [1, -FAR],
)
ROWS = (
    [0],
    [1, 99],
    [1, -99],
    [8, 1, 2, 3, 4, 5, 6, 7, 8],
    [8, 99, -99, 99, -99, 99, -99, 99, -99],
)
TEXT = "program ( ); relation any input ( ) output equal ( );"


class Refusals(unittest.TestCase):
    def test_lists_that_are_no_row(self):
        for numbers in NO_ROWS:
            with self.subTest(numbers):
                self.assertEqual(answer_behind(TEXT, run_list(numbers)), [-5])
                self.assertEqual(answer_behind(TEXT, rows_list(numbers)), [-5])
                self.assertEqual(answer_behind(TEXT, turned_list(0, numbers)), [-5])
                self.assertEqual(answer_behind(TEXT, sides_list(0, numbers)), [-5])
                self.assertEqual(answer_behind(TEXT, verdict_list(0, numbers)), [-5])

    def test_lists_that_are_rows(self):
        for numbers in ROWS:
            with self.subTest(numbers):
                self.assertEqual(answer_behind(TEXT, run_list(numbers)), [1, *numbers])
                self.assertEqual(answer_behind(TEXT, rows_list(numbers)), [1, *numbers])
                self.assertEqual(answer_behind(TEXT, turned_list(0, numbers)), [1, *numbers])
                self.assertEqual(answer_behind(TEXT, sides_list(0, numbers)), [1, *numbers, *numbers])
                self.assertEqual(answer_behind(TEXT, verdict_list(0, numbers)), [0])

    def test_no_such_relation(self):
        for relation in (-1, 3, 4, -3, 11, FAR, -FAR):
            with self.subTest(relation):
                for call in (turned(relation, 1), sides(relation, 1), verdict(relation, 1), at(relation, 0)):
                    self.assertEqual(answer_behind(EXAMPLE, call), [-2])
        for call in (turned(0, 1), sides(0, 1), verdict(0, 1), at(0, 0)):
            self.assertEqual(answer_behind("program ( );", call), [-2])

    def test_each_relation_there_is(self):
        for relation in (0, 1, 2):
            for call in (turned(relation, 1), sides(relation, 1), verdict(relation, 1), at(relation, 0)):
                with self.subTest(call):
                    self.assertGreaterEqual(answer_behind(EXAMPLE, call)[0], 0)

    def test_without_a_text(self):
        for call in (shown(), told(), run(1), rows(1), turned(0, 1), sides(0, 1), verdict(0, 1), at(0, 0)):
            with self.subTest(call):
                self.assertEqual(ask(call), [[-8]])
                self.assertEqual(ask(bound(1, 0, 1), load("zzz"), call)[2], [-8])

    def test_bound_and_input_need_no_text(self):
        self.assertEqual(ask(nth(0), bound(1, 4, 4), nth(1)), [[0], [2], [1, 4]])

    def test_no_text_goes_ahead_of_all(self):
        for numbers in NO_ROWS:
            with self.subTest(numbers):
                calls = [run_list(numbers), rows_list(numbers)]
                for listing in (turned_list, sides_list, verdict_list):
                    calls += [listing(0, numbers), listing(-1, numbers)]
                self.assertEqual(ask(*calls), [[-8]] * 8)
        self.assertEqual(ask(at(0, 1), at(-1, 0), at(-1, -1), at(FAR, FAR)), [[-8]] * 4)

    def test_no_such_relation_goes_ahead_of_no_row(self):
        for numbers in NO_ROWS:
            with self.subTest(numbers):
                for listing in (turned_list, sides_list, verdict_list):
                    self.assertEqual(answer_behind(EXAMPLE, listing(3, numbers)), [-2])
                    self.assertEqual(answer_behind(EXAMPLE, listing(-1, numbers)), [-2])

    def test_no_such_relation_goes_ahead_of_no_such_input(self):
        for number in (1, -1, FAR, -FAR):
            with self.subTest(number):
                self.assertEqual(answer_behind(EXAMPLE, at(3, number)), [-2])
                self.assertEqual(answer_behind(EXAMPLE, at(-1, number)), [-2])
                self.assertEqual(answer_behind(EXAMPLE, at(2, number)), [-3])

    def test_a_row_is_looked_at_ahead_of_the_run(self):
        text = "program ( times 99 times 99 times 99 );"
        self.assertEqual(answer_behind(text, run(99)), [0])
        self.assertEqual(answer_behind(text, run(100)), [-5])

    def test_a_row_is_looked_at_ahead_of_the_condition(self):
        text = "program ( ); relation plus input ( ) output equal ( );"
        for asking in (sides, verdict):
            self.assertEqual(answer_behind(text, asking(0, -100)), [-5])
        self.assertEqual(answer_behind(text, sides(0, -99)), [0])
        self.assertEqual(answer_behind(text, verdict(0, -99)), [2])

    def test_nothing_changes(self):
        refused = (run_list([1]), rows_list([1]), turned(9, 1), turned_list(0, [1]))
        apart = ask(load(EXAMPLE), told(), *refused, told(), shown(), run(3, 4))
        self.assertEqual(apart[2:6], [[-5], [-5], [-2], [-5]])
        self.assertEqual(apart[6], apart[1])
        self.assertEqual(apart[8], [1, 2, 3, 4])

    def test_nothing_changes_by_what_is_refused_of_relations_and_inputs(self):
        looks = (told(), nth(3), nth(6), at(2, 4))
        refused = {
            -2: (sides(3, 1), verdict(-1, 1), at(3, 0)),
            -3: (nth(7), nth(-1), at(0, 7), at(0, -1)),
            -5: (sides_list(0, [1]), verdict_list(0, [100]), bound(2, 1, 0), bound(8, 0, 3), bound(9, 0, 0)),
            -1: (load(" " * 1501),),
        }
        for number, calls in refused.items():
            for call in calls:
                with self.subTest(call):
                    apart = ask(load(EXAMPLE), bound(2, 4, 5), *looks, call, *looks)
                    self.assertEqual(apart[6], [number])
                    self.assertEqual(apart[7:], apart[2:6])


class HandedIn(unittest.TestCase):
    def test_example(self):
        text = list(EXAMPLE.encode("ascii"))
        calls = [0, len(text), *text, 3, 4, 3, -3, 1, 2, 4, 4, 3, -3, 1, 2, 5, 0, 3, 2, 4, 5]
        made = [3, 0, 3, 3]
        made += [4, 1, 2, 1, 2]
        made += [16, 4, 3, -3, 1, 2, 3, 3, 1, 2, 3, 1, 2, 3, 2, 1, 2]
        made += [4, 1, 2, 5, 4]
        self.assertEqual(answers(calls), made)

    def test_example_of_relations_and_inputs(self):
        text = list(EXAMPLE.encode("ascii"))
        calls = [0, len(text), *text, 6, 2, 3, 2, -1, -2, 7, 2, 3, 2, -1, -2, 7, 1, 1, 0]
        calls += [8, 2, -1, 1, 9, 5, 10, 2, 2]
        made = [3, 0, 3, 3]
        made += [7, 1, 2, 0, 1, 2, 1, 2]
        made += [1, 1, 1, 2]
        made += [1, 13, 3, 2, -1, 0, 6, 0, 1, 1, 1, 1, 0]
        self.assertEqual(answers(calls), made)

    def test_shown_and_told(self):
        calls = [1, 2, *load("program();"), 1, 2]
        form = list(b"program ( );\n")
        self.assertEqual(answers(calls), [1, -8, 1, -8, 3, 0, 0, 0, 14, 13, *form, 2, 0, 0])

    def test_lists_without_numbers(self):
        calls = [0, 0, *load(TEXT), 3, 0, 4, 0, 5, 0, 0, 3, 1, 0, 4, 1, 0, 5, 0, 1, 0]
        made = [3, 1, 2, 0, 3, 0, 0, 1, 1, -5, 1, -5, 1, -5, 2, 1, 0, 2, 1, 0, 2, 1, 0]
        self.assertEqual(answers(calls), made)

    def test_sixty_calls(self):
        calls = [load(EXAMPLE)] + [run(k, -k) for k in range(59)]
        apart = ask(*calls)
        self.assertEqual(apart[1:], [[1, 2, k, k] for k in range(59)])

    def test_what_is_handed_in_stays(self):
        calls = load(EXAMPLE) + shown() + told() + run(3, 1, 2) + rows(3, 1, 2) + turned(0, 3, 1, 2)
        calls += sides(0, 3, 1, 2) + verdict(0, 3, 1, 2) + bound(2, 0, 3) + nth(9) + at(0, 9)
        calls += sides(3, 1) + verdict_list(0, [1]) + bound(9, 0, 0) + nth(-1) + at(0, -1) + load("zzz")
        copied = list(calls)
        answers(calls)
        self.assertEqual(calls, copied)

    def test_rows_without_steps_stay(self):
        calls = load(TEXT) + run(3, 1, 2) + rows(3, 1, 2) + turned(0, 3, 1, 2) + sides(0, 3, 1, 2) + verdict(0, 3, 1, 2)
        copied = list(calls)
        made = answers(calls)
        made.clear()
        self.assertEqual(calls, copied)

    def test_nothing_is_kept(self):
        first = answers(load(EXAMPLE) + told())
        self.assertEqual(answers(told()), [1, -8])
        self.assertEqual(answers(load(EXAMPLE) + told()), first)
        self.assertEqual(answers(bound(1, 0, 1) + nth(2)), [1, 3, 2, 1, 1])
        self.assertEqual(answers(nth(0) + nth(1)), [1, 0, 1, -3])

    def test_what_is_given_back_is_new(self):
        calls = load(TEXT) + run(1, 2)
        answers(calls).append(7)
        self.assertEqual(answers(calls), [3, 0, 0, 1, 4, 1, 2, 1, 2])

    def test_kinds(self):
        steps = "add 1 times 2 rest 5 abs sort reverse rotate 1 take 5"
        more = "drop 1 above 0 once sums steps twice count sum"
        calls = load(f"program ( {steps} ); relation any input ( {more} ) output long ( greatest least );")
        calls += shown() + told() + run(3, 1, 2) + rows(3, 1, 2) + turned(0, 3, 1, 2) + run_list([])
        calls += bound(3, 0, 2) + nth(20) + nth(-1) + bound(0, 1, 0)
        for condition in ("any", "some", "rising", "plus", "unlike", "atleast 2"):
            for standing in ("equal", "bag", "numbers", "most", "least", "begins", "long"):
                calls += load(f"program ( ); relation {condition} input ( sort ) output {standing} ( );")
                calls += sides(0, 1, 2) + verdict(0, 1, 2) + verdict(0, -2, -1, -1) + at(0, 20) + at(0, 40)
        made = answers(calls)
        self.assertIs(type(made), list)
        self.assertEqual({type(number) for number in made}, {int})


class TheObject(unittest.TestCase):
    def test_the_text_of_the_last_load_counts(self):
        apart = ask(
            load("program ( add 1 );"), run(5), load("program ( add 2 );"), run(5), load("?"), run(5), load(TEXT), run(5),
        )
        self.assertEqual(apart[1::2], [[1, 1, 6], [1, 1, 7], [1, 1, 7], [1, 1, 5]])

    def test_relations_are_those_of_the_text(self):
        apart = ask(load(EXAMPLE), turned(2, 5), load(TEXT), turned(2, 5), turned(0, 5))
        self.assertEqual(apart[1], [1, 1, 6])
        self.assertEqual(apart[3:], [[-2], [1, 1, 5]])

    def test_the_bound_of_the_last_call_counts(self):
        apart = ask(nth(1), bound(1, 3, 3), nth(1), bound(1, 4, 4), nth(1), bound(1, 5, 4), nth(1))
        self.assertEqual(apart, [[-3], [2], [1, 3], [2], [1, 4], [-5], [1, 4]])

    def test_a_bound_stays_over_a_load(self):
        loads = (load(EXAMPLE), load("program ( );"), load("zzz"), load("?"), load(" " * 1501))
        for call in loads:
            with self.subTest(call[:8]):
                apart = ask(bound(2, 4, 5), call, nth(4), nth(6), nth(7))
                self.assertEqual(apart[2:], [[2, 4, 5], [2, 5, 5], [-3]])
        apart = ask(load(EXAMPLE), bound(1, 4, 4), at(0, 1), load(TEXT), at(0, 1), load(TEXT), at(0, 2))
        self.assertEqual(apart[4:], [[0, 1, 1, 4, 1, 4], [0, 0, 1], [-3]])

    def test_a_bound_leaves_the_text(self):
        apart = ask(load(EXAMPLE), told(), bound(1, 0, 0), told(), bound(1, 1, 0), told())
        self.assertEqual(apart[3], apart[1])
        self.assertEqual(apart[5], apart[1])

    def test_calls_are_told_apart(self):
        self.assertEqual(listed([4, 5]), [2, 4, 5])
        text = "program ( sum ); relation any input ( count ) output equal ( );"
        apart = ask(load(text), run(4, 5), rows(4, 5), turned(0, 4, 5))
        self.assertEqual(apart[1:], [[1, 1, 9], [2, 2, 4, 5, 1, 9], [1, 1, 2]])
        apart = ask(load(text), sides(0, 4, 5), verdict(0, 4, 5), bound(2, 4, 5), nth(4), at(0, 4))
        self.assertEqual(apart[1:], [[1, 1, 2, 1, 9], [1], [7], [2, 4, 5], [1, 1, 1, 2, 1, 9]])


if __name__ == "__main__":
    unittest.main()
