"""Promise 2: what is a bound, how many inputs it has, and their order; and at, which asks at one of them."""

import itertools
import unittest

from helper import EXAMPLE, answer_behind, ask, at, bound, listed, load, nth, one_relation, sides, verdict

FAR = 10 ** 18


def inputs_in_order(length, low, high):
    """All inputs of a bound, told apart from the program's own way to count them."""
    numbers = range(low, high + 1)
    return [list(row) for many in range(length + 1) for row in itertools.product(numbers, repeat=many)]


def answers_under(length, low, high, calls):
    """The answers to many calls under one bound, some at a time."""
    made = []
    for start in range(0, len(calls), 50):
        made += ask(bound(length, low, high), *calls[start:start + 50])[1:]
    return made


class WhatIsABound(unittest.TestCase):
    def test_example(self):
        self.assertEqual(ask(bound(2, -1, 1)), [[13]])

    def test_lengths(self):
        self.assertEqual(ask(*[bound(length, 0, 0) for length in range(9)]), [[length + 1] for length in range(9)])
        self.assertEqual(ask(*[bound(length, 0, 1) for length in range(9)]), [[2 ** (k + 1) - 1] for k in range(9)])
        for length in (9, 10, -1, -2, FAR, -FAR):
            with self.subTest(length):
                self.assertEqual(ask(bound(length, 0, 0)), [[-5]])

    def test_numbers_at_their_ends(self):
        for low, high, many in ((-99, 99, 200), (-99, -99, 2), (99, 99, 2), (98, 99, 3), (-99, -98, 3), (0, 99, 101)):
            with self.subTest(low=low, high=high):
                self.assertEqual(ask(bound(1, low, high)), [[many]])
        for low, high in (
            (-100, 99), (-99, 100), (-100, 100), (100, 100), (-100, -100), (99, 100), (-100, -99), (0, FAR), (-FAR, 0),
            (-FAR, FAR), (FAR, FAR), (-FAR, -FAR),
        ):
            with self.subTest(low=low, high=high):
                self.assertEqual(ask(bound(0, low, high), bound(1, low, high)), [[-5], [-5]])

    def test_the_first_number_is_not_above_the_second_one(self):
        for low, high in ((1, 0), (0, -1), (99, -99), (-98, -99), (FAR, -FAR)):
            with self.subTest(low=low, high=high):
                self.assertEqual(ask(bound(0, low, high), bound(1, low, high)), [[-5], [-5]])
        self.assertEqual(ask(bound(1, 5, 5), bound(1, -1, 0)), [[2], [3]])

    def test_length_0_has_one_input_whatever_the_numbers(self):
        self.assertEqual(ask(bound(0, -99, 99), nth(0), nth(1)), [[1], [0], [-3]])


class AtMost1500(unittest.TestCase):
    def test_every_length_and_how_many_numbers(self):
        # No bound has 1484 to 1554 inputs, so the nearest to 1500 on either side are those of 1483 and 1555.
        counts = []
        for length in range(9):
            for many in range(1, 200):
                count = sum(many ** k for k in range(length + 1))
                counts.append(count)
                for low in (-99, 100 - many):
                    answer = ask(bound(length, low, low + many - 1))[0]
                    self.assertEqual(answer, [count] if count <= 1500 else [-5], (length, low, many))
        self.assertEqual(max(count for count in counts if count <= 1500), 1483)
        self.assertEqual(min(count for count in counts if count > 1500), 1555)

    def test_the_nearest_to_1500(self):
        self.assertEqual(ask(bound(2, 1, 38), nth(1482), nth(1483)), [[1483], [2, 38, 38], [-3]])
        self.assertEqual(ask(bound(4, -3, 2)), [[-5]])
        self.assertEqual(ask(bound(2, 0, 38)), [[-5]])

    def test_the_most_of_each_length(self):
        for length, many, count in ((3, 11, 1464), (4, 5, 781), (5, 4, 1365), (6, 3, 1093), (7, 2, 255), (8, 2, 511)):
            with self.subTest(length):
                self.assertEqual(ask(bound(length, 1, many), bound(length, 0, many), nth(count - 1), nth(count)), [
                    [count], [-5], listed([many] * length), [-3],
                ])


class Inputs(unittest.TestCase):
    def test_example(self):
        self.assertEqual(ask(bound(2, -1, 1), nth(5))[1], [2, -1, 0])

    def test_all_of_a_small_bound(self):
        calls = [nth(number) for number in range(-1, 14)]
        self.assertEqual(ask(bound(2, -1, 1), *calls)[1:], [
            [-3], [0], [1, -1], [1, 0], [1, 1],
            [2, -1, -1], [2, -1, 0], [2, -1, 1], [2, 0, -1], [2, 0, 0], [2, 0, 1], [2, 1, -1], [2, 1, 0], [2, 1, 1],
            [-3],
        ])

    def test_all_in_their_order(self):
        for told in ((0, 5, 9), (1, -99, 99), (2, -10, 5), (2, 62, 99), (3, -99, -92), (4, 1, 4), (5, -3, -1), (8, 7, 8)):
            with self.subTest(told):
                due = inputs_in_order(*told)
                self.assertEqual(ask(bound(*told)), [[len(due)]])
                made = answers_under(*told, [nth(number) for number in range(len(due))])
                self.assertEqual(made, [listed(row) for row in due])
                self.assertEqual(answers_under(*told, [nth(len(due))]), [[-3]])

    def test_ahead_of_any_bound(self):
        self.assertEqual(ask(nth(0), nth(1), nth(-1)), [[0], [-3], [-3]])

    def test_no_such_input(self):
        for number in (-1, -2, -7, -8, 7, 8, FAR, -FAR):
            with self.subTest(number):
                self.assertEqual(ask(bound(2, 4, 5), nth(number)), [[7], [-3]])

    def test_a_refused_bound_leaves_the_one_before(self):
        for told in ((9, 0, 0), (-1, 0, 0), (1, 1, 0), (1, -100, 0), (1, 0, 100), (2, 0, 38), (8, -99, 99)):
            with self.subTest(told):
                apart = ask(bound(2, 4, 5), bound(*told), nth(0), nth(5), nth(7))
                self.assertEqual(apart, [[7], [-5], [0], [2, 5, 4], [-3]])
                self.assertEqual(ask(bound(*told), nth(0), nth(1)), [[-5], [0], [-3]])


class At(unittest.TestCase):
    def test_example(self):
        self.assertEqual(answer_behind(EXAMPLE, bound(2, -1, 1), at(2, 2)), [0, 1, 1, 1, 1, 0])

    def test_each_verdict(self):
        text = one_relation("some", "add 1", "most", program="abs")
        apart = ask(load(text), bound(1, -2, 0), at(0, 0), at(0, 1), at(0, 2), at(0, 3))
        self.assertEqual(apart[2:], [[2, 0], [0, 1, 1, 1, 1, 2], [0, 1, 1, 0, 1, 1], [1, 1, 1, 1, 1, 0]])

    def test_beyond(self):
        text = one_relation(program="times 99 times 99 times 99")
        apart = ask(load(text), bound(1, 1, 2), at(0, 1), at(0, 2))
        self.assertEqual(apart[2:], [[0, 1, 1, 970299, 1, 970299], [2, 0]])

    def test_as_verdict_and_sides_at_every_input(self):
        told = (3, -2, 2)
        inputs = inputs_in_order(*told)
        verdicts = set()
        for relation in range(3):
            for number, row in enumerate(inputs):
                apart = ask(load(EXAMPLE), bound(*told), at(relation, number), verdict(relation, *row), sides(relation, *row))
                self.assertEqual(apart[2], apart[3] + apart[4])
                verdicts.update(apart[3])
        self.assertEqual(verdicts, {0, 1, 2})

    def test_no_such_input(self):
        for number in (-1, 1, 7, FAR, -FAR):
            with self.subTest(number):
                self.assertEqual(answer_behind(EXAMPLE, at(0, number)), [-3])
        self.assertEqual(answer_behind(EXAMPLE, at(0, 0)), [0, 1, 0, 0])
        self.assertEqual(answer_behind(EXAMPLE, bound(1, 0, 1), at(0, 3)), [-3])
        self.assertEqual(answer_behind(EXAMPLE, bound(1, 0, 1), at(0, 2)), [0, 1, 1, 1, 1, 1])


if __name__ == "__main__":
    unittest.main()
