"""Promise 3 as far as it speaks of sides and verdict: conditions, sides, and how two rows stand."""

import unittest

from helper import EXAMPLE, answer_behind, listed, one_relation, sides, verdict
from runrelations.judging import STANDINGS

KEPT, BROKEN, OFF = [0], [1], [2]

# A condition, rows of which it is so, and rows of which it isn't.
CONDITIONS = (
    ("any", ([], [0], [-99], [2, 1], [1, 1, -1]), ()),
    ("some", ([0], [-1], [1, 1]), ([],)),
    ("rising", ([], [5], [1, 1], [-1, 0, 0, 7]), ([1, 0], [1, 2, 1], [2, 1, 2], [0, -1])),
    ("plus", ([], [0], [3, 0, 1], [99]), ([-1], [0, -1], [-99, 5], [3, -1, 3])),
    ("unlike", ([], [0], [1, -1], [3, 1, 2]), ([1, 1], [1, 2, 1], [0, 3, 2, 2], [-1, -1])),
    ("atleast 0", ([], [1]), ()),
    ("atleast 1", ([0], [1, 1]), ([],)),
    ("atleast 2", ([1, 1], [1, 2, 3]), ([], [5])),
    ("atleast 8", ([1, 2, 3, 4, 5, 6, 7, 8],), ([1, 2, 3, 4, 5, 6, 7],)),
    ("atleast 9", (), ([], [1, 2, 3, 4, 5, 6, 7, 8])),
)

# Two rows, and how the first one stands to the second one.
ROWS = (
    ([], [], "equal bag numbers most least begins long"),
    ([1], [1], "equal bag numbers most least begins long"),
    ([1, 2], [1, 2], "equal bag numbers most least begins long"),
    ([1, 2], [2, 1], "bag numbers long"),
    ([2, 1, 2], [1, 2, 2], "bag numbers long"),
    ([1, 1, 2], [1, 2, 2], "numbers most long"),
    ([1, 2, 2], [1, 1, 2], "numbers least long"),
    ([1, 2], [1, 2, 1], "numbers begins"),
    ([1, 2, 1], [1, 2], "numbers"),
    ([1], [2], "most long"),
    ([2], [1], "least long"),
    ([1, 3], [2, 3], "most long"),
    ([2, 3], [1, 3], "least long"),
    ([1, 3], [2, 2], "long"),
    ([2, 2], [1, 3], "long"),
    ([], [1], "begins"),
    ([1], [], ""),
    ([1], [2, 3], ""),
    ([3], [1, 2], ""),
    ([1, 2], [1, 2, 3], "begins"),
    ([1, 2, 3], [1, 2], ""),
    ([2, 3], [1, 2, 3], ""),
    ([1, 3], [1, 2, 3], ""),
    ([1], [1, 1], "numbers begins"),
    ([1, 1], [1], "numbers"),
    ([-1], [1], "most long"),
    ([1, 2], [1, 3], "most long"),
    ([0, 0], [0, 0, 0], "numbers begins"),
    ([1, 2, 3], [1, 2, 4], "most long"),
    ([3, 1, 2], [3, 1, 2], "equal bag numbers most least begins long"),
)


def verdict_at(text, *row):
    return answer_behind(text, verdict(0, *row))


def sides_at(text, *row):
    return answer_behind(text, sides(0, *row))


def both(left, right):
    return [1, *listed(left), *listed(right)]


class Example(unittest.TestCase):
    def test_as_told(self):
        self.assertEqual(answer_behind(EXAMPLE, sides(2, -1, -2)), [1, 2, 0, 1, 2, 1, 2])
        self.assertEqual(answer_behind(EXAMPLE, verdict(2, -1, -2)), BROKEN)
        self.assertEqual(answer_behind(EXAMPLE, verdict(1)), OFF)

    def test_kept(self):
        self.assertEqual(answer_behind(EXAMPLE, verdict(0, 3, -3, 1, 2)), KEPT)
        self.assertEqual(answer_behind(EXAMPLE, sides(0, 3, -3, 1, 2)), both([1, 2], [1, 2]))
        self.assertEqual(answer_behind(EXAMPLE, verdict(2, 1, 2)), KEPT)
        self.assertEqual(answer_behind(EXAMPLE, sides(2, 1, 2)), both([2, 3], [1, 2]))


class Conditions(unittest.TestCase):
    def test_so_and_not_so(self):
        for condition, so, not_so in CONDITIONS:
            text = one_relation(condition)
            for row in so:
                with self.subTest(condition=condition, row=row):
                    self.assertEqual(verdict_at(text, *row), KEPT)
                    self.assertEqual(sides_at(text, *row), both(row, row))
            for row in not_so:
                with self.subTest(condition=condition, row=row):
                    self.assertEqual(verdict_at(text, *row), OFF)
                    self.assertEqual(sides_at(text, *row), [0])

    def test_every_number_of_atleast(self):
        for least in range(10):
            for many in range(9):
                with self.subTest(least=least, many=many):
                    due = KEPT if many >= least else OFF
                    self.assertEqual(verdict_at(one_relation(f"atleast {least}"), *range(many)), due)

    def test_a_condition_is_one_on_the_input_alone(self):
        # What's turned, or what comes of it, may be without numbers, falling, below 0, or alike.
        self.assertEqual(verdict_at(one_relation("some", "take 0", output="take 0"), 1), KEPT)
        self.assertEqual(verdict_at(one_relation("rising", "reverse", output="reverse"), 1, 2), KEPT)
        self.assertEqual(verdict_at(one_relation("plus", "times -1", output="times -1"), 1, 2), KEPT)
        self.assertEqual(verdict_at(one_relation("unlike", "times 0", output="times 0"), 1, 2), KEPT)
        self.assertEqual(verdict_at(one_relation("atleast 2", "take 1", output="take 1"), 1, 2), KEPT)
        self.assertEqual(verdict_at(one_relation("rising", "sort", output="sort"), 2, 1), OFF)
        self.assertEqual(verdict_at(one_relation("plus", "abs", output="abs"), -1), OFF)
        self.assertEqual(verdict_at(one_relation("unlike", "once", output="once"), 1, 1), OFF)
        self.assertEqual(verdict_at(one_relation("atleast 2", "twice", output="twice"), 1), OFF)
        self.assertEqual(verdict_at(one_relation("some", "count", output="count")), OFF)

    def test_off_goes_ahead_of_broken(self):
        text = one_relation("plus", "add 1")
        self.assertEqual(verdict_at(text, 1), BROKEN)
        self.assertEqual(verdict_at(text, -1), OFF)


class WhichSide(unittest.TestCase):
    def test_left_of_the_turned_input_right_of_the_outcome_turned(self):
        text = one_relation("any", "drop 1", "equal", "add 10", "sums")
        self.assertEqual(sides_at(text, 1, 2, 3), both([2, 5], [11, 13, 16]))

    def test_the_turning_comes_ahead_of_the_program_on_the_left_side(self):
        self.assertEqual(sides_at(one_relation(turning="add 1", program="times 2"), 5), both([12], [10]))

    def test_the_turning_comes_behind_the_program_on_the_right_side(self):
        self.assertEqual(sides_at(one_relation(output="add 1", program="times 2"), 5), both([10], [11]))

    def test_nothing_but_the_input(self):
        self.assertEqual(sides_at(one_relation(), 3, 1), both([3, 1], [3, 1]))
        self.assertEqual(sides_at(one_relation()), both([], []))

    def test_sides_without_numbers(self):
        self.assertEqual(sides_at(one_relation(turning="take 0"), 3, 1), both([], [3, 1]))
        self.assertEqual(sides_at(one_relation(output="take 0"), 3, 1), both([3, 1], []))

    def test_sides_are_told_where_the_relation_is_broken(self):
        text = one_relation(turning="add 1")
        self.assertEqual(verdict_at(text, 1), BROKEN)
        self.assertEqual(sides_at(text, 1), both([2], [1]))

    def test_sides_of_forty_numbers(self):
        row = [1, 2, 3, 4, 5]
        self.assertEqual(sides_at(one_relation(program="twice twice twice"), *row), both(row * 8, row * 8))

    def test_the_last_of_twelve(self):
        relations = "".join(f"relation any input ( add {k} ) output least ( add 5 );" for k in range(12))
        for k in range(12):
            with self.subTest(k):
                text = "program ( );" + relations
                self.assertEqual(answer_behind(text, sides(k, 7)), both([7 + k], [12]))
                self.assertEqual(answer_behind(text, verdict(k, 7)), KEPT if k >= 5 else BROKEN)


class Beyond(unittest.TestCase):
    # Of 50 comes just what a number of a row may be.
    MILLION = "times 50 times 50 times 8"

    def beyond_at(self, text, fine, far):
        """Whether the relation is off where one of the runs is beyond, and isn't where none is."""
        self.assertNotEqual(verdict_at(text, *fine), OFF)
        self.assertEqual(sides_at(text, *fine)[0], 1)
        self.assertEqual(verdict_at(text, *far), OFF)
        self.assertEqual(sides_at(text, *far), [0])

    def test_the_program_on_the_input(self):
        self.beyond_at(one_relation(turning="take 0", program=self.MILLION), [50], [51])
        self.beyond_at(one_relation(turning="take 0", program=self.MILLION), [-50], [-51])
        self.beyond_at(one_relation(turning="take 0", output="take 0", program=self.MILLION), [50], [51])

    def test_the_turning_of_the_input(self):
        self.beyond_at(one_relation(turning=self.MILLION, program="take 0"), [50], [51])
        self.beyond_at(one_relation(turning=self.MILLION), [-50], [-51])
        self.beyond_at(one_relation(turning=self.MILLION + " take 0"), [50], [51])

    def test_the_program_on_what_is_turned(self):
        self.beyond_at(one_relation(turning="add 1", program=self.MILLION), [49], [50])
        self.beyond_at(one_relation(turning="add -1", program=self.MILLION), [-49], [-50])
        self.beyond_at(one_relation(turning="add 1", program=self.MILLION + " take 0"), [49], [50])

    def test_the_turning_of_the_output(self):
        self.beyond_at(one_relation(output=self.MILLION), [50], [51])
        self.beyond_at(one_relation(output=self.MILLION, program="add 1"), [49], [50])
        self.beyond_at(one_relation(output=self.MILLION + " take 0"), [50], [51])

    def test_more_than_forty_numbers(self):
        fine = [1, 2, 3, 4, 5]
        far = [1, 2, 3, 4, 5, 6]
        self.beyond_at(one_relation(turning="take 0", program="twice twice twice"), fine, far)
        self.beyond_at(one_relation(turning="twice twice twice", program="take 0"), fine, far)
        self.beyond_at(one_relation(turning="twice twice", program="twice"), fine, far)
        self.beyond_at(one_relation(output="twice twice twice"), fine, far)

    def test_neither_is_both(self):
        self.assertEqual(verdict_at(one_relation(program=self.MILLION), 51), OFF)

    def test_a_condition_that_is_so_does_not_help(self):
        self.assertEqual(verdict_at(one_relation("some", program=self.MILLION), 51), OFF)

    def test_what_comes_of_two_runs_may_be_far_beyond_the_input(self):
        text = one_relation(turning="times 99", program="times 99")
        self.assertEqual(sides_at(text, 99), both([970299], [9801]))


class Standings(unittest.TestCase):
    def as_steps(self, first, second):
        """Turnings and an input at which the left side is the first row, the right one the second row."""
        turning = f"drop {len(second)}"
        output = f"take {len(second)}"
        return turning, output, [*second, *first]

    def test_each_pair_of_rows(self):
        for first, second, told in ROWS:
            turning, output, row = self.as_steps(first, second)
            for standing in STANDINGS:
                with self.subTest(first=first, second=second, standing=standing):
                    text = one_relation("any", turning, standing, output)
                    self.assertEqual(sides_at(text, *row), both(first, second))
                    self.assertEqual(verdict_at(text, *row), KEPT if standing in told.split(" ") else BROKEN)

    def test_each_is_tried_on_both_sides_of_its_edge(self):
        for standing in STANDINGS:
            tried = {standing in told.split(" ") for _, _, told in ROWS}
            self.assertEqual(tried, {True, False}, standing)
        self.assertEqual(list(STANDINGS), ["equal", "bag", "numbers", "most", "least", "begins", "long"])

    def test_long_rows(self):
        row = [1, 2, 3, 4, 5]
        for standing, due in (
            ("equal", BROKEN), ("bag", KEPT), ("numbers", KEPT), ("most", BROKEN), ("least", BROKEN), ("begins", BROKEN),
            ("long", KEPT),
        ):
            with self.subTest(standing):
                text = one_relation("any", "rotate 1", standing, "", "twice twice twice")
                self.assertEqual(verdict_at(text, *row), due)


if __name__ == "__main__":
    unittest.main()
