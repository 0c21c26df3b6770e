"""Promise 3 as far as it speaks of run, rows and turned: what comes of programs on rows."""

import unittest

from helper import EXAMPLE, answer_behind, listed, rows, run, turned
from runrelations.running import is_beyond

# A step, a row, and what comes of it.
STEPS = (
    ("add 3", [5, -5, 0], [8, -2, 3]),
    ("add -99", [-99, 99], [-198, 0]),
    ("add 0", [4], [4]),
    ("add 1", [], []),
    ("times 3", [5, -5, 0], [15, -15, 0]),
    ("times -1", [2, -3], [-2, 3]),
    ("times 0", [2, -3], [0, 0]),
    ("times 99", [99, -99], [9801, -9801]),
    ("rest 3", [-4, -3, -2, -1, 0, 1, 2, 3], [2, 0, 1, 2, 0, 1, 2, 0]),
    ("rest 1", [5, -5, 0], [0, 0, 0]),
    ("rest 9", [-1, 9, 98], [8, 0, 8]),
    ("abs", [-3, 3, 0, -99], [3, 3, 0, 99]),
    ("sort", [3, -1, 3, 0, -99], [-99, -1, 0, 3, 3]),
    ("reverse", [1, 2, 2, 3], [3, 2, 2, 1]),
    ("reverse", [], []),
    ("rotate 0", [1, 2, 3], [1, 2, 3]),
    ("rotate 1", [1, 2, 3], [2, 3, 1]),
    ("rotate 2", [1, 2, 3], [3, 1, 2]),
    ("rotate 3", [1, 2, 3], [1, 2, 3]),
    ("rotate 4", [1, 2, 3], [2, 3, 1]),
    ("rotate 9", [1, 2, 3, 4, 5], [5, 1, 2, 3, 4]),
    ("rotate 0", [], []),
    ("rotate 5", [], []),
    ("take 2", [1, 2, 3], [1, 2]),
    ("take 0", [1, 2, 3], []),
    ("take 3", [1, 2, 3], [1, 2, 3]),
    ("take 9", [1, 2, 3], [1, 2, 3]),
    ("drop 2", [1, 2, 3], [3]),
    ("drop 0", [1, 2, 3], [1, 2, 3]),
    ("drop 3", [1, 2, 3], []),
    ("drop 9", [1, 2, 3], []),
    ("above 1", [3, 1, 2, 0, 3], [3, 2, 3]),
    ("above -2", [-3, -2, -1, 0], [-1, 0]),
    ("above 99", [99, 98], []),
    ("once", [3, 1, 3, 2, 1, 3], [3, 1, 2]),
    ("once", [1, -1, 1], [1, -1]),
    ("sum", [3, -1, 5], [7]),
    ("sum", [], [0]),
    ("greatest", [3, -1, 5, 5, 2], [5]),
    ("greatest", [-3, -1], [-1]),
    ("greatest", [], []),
    ("least", [3, -1, 5, -1, 2], [-1]),
    ("least", [3, 5], [3]),
    ("least", [], []),
    ("count", [3, 3, 3], [3]),
    ("count", [], [0]),
    ("steps", [3, 5, 4, 4], [2, -1, 0]),
    ("steps", [3], []),
    ("steps", [], []),
    ("sums", [3, -1, 5], [3, 2, 7]),
    ("sums", [3], [3]),
    ("sums", [], []),
    ("twice", [3, 1], [3, 1, 3, 1]),
    ("twice", [], []),
)

TO_A_MILLION = "times 50 times 50 times 8"


def ran(steps, row):
    return answer_behind(f"program ( {steps} );", run(*row))


def rows_of(steps, row):
    return answer_behind(f"program ( {steps} );", rows(*row))


def outcome(row):
    return [1, *listed(row)]


def several(*given):
    return [len(given)] + [number for row in given for number in listed(row)]


class EachStep(unittest.TestCase):
    def test_alone(self):
        for step, row, made in STEPS:
            with self.subTest(step=step, row=row):
                self.assertEqual(ran(step, row), outcome(made))
                self.assertEqual(rows_of(step, row), several(row, made))

    def test_in_a_turning(self):
        for step, row, made in STEPS:
            with self.subTest(step=step, row=row):
                text = f"program ( sum ); relation any input ( {step} ) output equal ( count );"
                self.assertEqual(answer_behind(text, turned(0, *row)), outcome(made))

    def test_each_is_tried(self):
        words = {step.split(" ")[0] for step, _, _ in STEPS}
        self.assertEqual(len(words), 18)


class Programs(unittest.TestCase):
    def test_example(self):
        self.assertEqual(answer_behind(EXAMPLE, run(-3, 1, 2)), [1, 2, 1, 2])
        self.assertEqual(
            answer_behind(EXAMPLE, rows(-3, 1, 2)),
            [4, 3, -3, 1, 2, 3, 3, 1, 2, 3, 1, 2, 3, 2, 1, 2],
        )

    def test_no_steps(self):
        self.assertEqual(ran("", [3, 1]), outcome([3, 1]))
        self.assertEqual(rows_of("", [3, 1]), several([3, 1]))
        self.assertEqual(ran("", []), [1, 0])
        self.assertEqual(rows_of("", []), [1, 0])

    def test_each_step_is_done_on_what_came_of_the_one_before(self):
        self.assertEqual(ran("add 1 times 2", [3]), outcome([8]))
        self.assertEqual(ran("times 2 add 1", [3]), outcome([7]))
        self.assertEqual(ran("sort drop 1 sum count", [9, 5, 7]), outcome([1]))

    def test_eight_steps_on_eight_numbers(self):
        steps = "abs sort reverse once take 3 sums steps sum"
        row = [-99, 99, 3, -3, 50, 7, 0, 98]
        made = (
            row,
            [99, 99, 3, 3, 50, 7, 0, 98],
            [0, 3, 3, 7, 50, 98, 99, 99],
            [99, 99, 98, 50, 7, 3, 3, 0],
            [99, 98, 50, 7, 3, 0],
            [99, 98, 50],
            [99, 197, 247],
            [98, 50],
            [148],
        )
        self.assertEqual(rows_of(steps, row), several(*made))
        self.assertEqual(ran(steps, row), outcome([148]))


class Beyond(unittest.TestCase):
    def test_forty_numbers(self):
        row = [1, 2, 3, 4, 5]
        self.assertEqual(ran("twice twice twice", row), outcome(row * 8))
        self.assertEqual(rows_of("twice twice twice", row), several(row, row * 2, row * 4, row * 8))

    def test_more_than_forty_numbers(self):
        # What has more than 40 numbers comes of twice alone, so 42 are the fewest that a run can come to.
        steps = "twice twice drop 3 twice"
        row = [1, 2, 3, 4, 5, 6]
        self.assertEqual(ran(steps, row), [0])
        self.assertEqual(rows_of(steps, row), several(row, row * 2, row * 4, (row * 4)[3:]))
        self.assertEqual(ran("twice twice drop 4 twice", row), outcome((row * 4)[4:] * 2))

    def test_forty_one_numbers(self):
        self.assertFalse(is_beyond([0] * 40))
        self.assertTrue(is_beyond([0] * 41))

    def test_a_million(self):
        self.assertEqual(ran(TO_A_MILLION, [50]), outcome([1000000]))
        self.assertEqual(ran(TO_A_MILLION, [-50]), outcome([-1000000]))

    def test_above_a_million(self):
        made = several([50], [2500], [125000], [1000000])
        self.assertEqual(ran(TO_A_MILLION + " add 1", [50]), [0])
        self.assertEqual(rows_of(TO_A_MILLION + " add 1", [50]), made)

    def test_below_minus_a_million(self):
        made = several([-50], [-2500], [-125000], [-1000000])
        self.assertEqual(ran(TO_A_MILLION + " add -1", [-50]), [0])
        self.assertEqual(rows_of(TO_A_MILLION + " add -1", [-50]), made)

    def test_one_number_among_others(self):
        steps = TO_A_MILLION + " add 1"
        self.assertEqual(ran(steps, [0, 50, 0]), [0])
        self.assertEqual(ran(steps, [0, 49, 0]), outcome([1, 980001, 1]))

    def test_sums_and_steps_beyond(self):
        self.assertEqual(ran(TO_A_MILLION + " sum", [50, 1]), [0])
        self.assertEqual(ran(TO_A_MILLION + " sums", [50, 1]), [0])
        self.assertEqual(ran(TO_A_MILLION + " steps", [-1, 50]), [0])
        self.assertEqual(ran(TO_A_MILLION + " sum", [50, -1]), outcome([980000]))

    def test_nothing_brings_a_run_back(self):
        for steps in ("take 0", "rest 2", "count", "add -1"):
            with self.subTest(steps):
                beyond = f"{TO_A_MILLION} add 1 {steps}"
                self.assertEqual(ran(beyond, [50]), [0])
                self.assertEqual(rows_of(beyond, [50]), several([50], [2500], [125000], [1000000]))
        self.assertEqual(ran("twice twice twice twice count", [1, 2, 3]), [0])

    def test_at_the_first_step(self):
        text = "program ( twice twice twice ); relation any input ( twice twice twice ) output equal ( );"
        self.assertEqual(answer_behind(text, run(*range(6))), [0])
        self.assertEqual(answer_behind(text, turned(0, *range(6))), [0])
        self.assertEqual(answer_behind(text, turned(0, *range(5))), outcome(list(range(5)) * 8))


class Turned(unittest.TestCase):
    def test_example(self):
        self.assertEqual(answer_behind(EXAMPLE, turned(0, 4, 5)), [1, 2, 5, 4])
        self.assertEqual(answer_behind(EXAMPLE, turned(1, 4, -5)), [1, 2, -4, 5])
        self.assertEqual(answer_behind(EXAMPLE, turned(2, 4, -5)), [1, 2, 5, -4])

    def test_a_turning_without_steps(self):
        text = "program ( sum ); relation any input ( ) output equal ( count );"
        self.assertEqual(answer_behind(text, turned(0, 4, 5)), outcome([4, 5]))

    def test_the_condition_is_not_asked(self):
        text = "program ( sum ); relation atleast 9 input ( add 1 ) output equal ( );"
        self.assertEqual(answer_behind(text, turned(0)), [1, 0])
        self.assertEqual(answer_behind(text, turned(0, 4)), outcome([5]))

    def test_the_last_of_twelve(self):
        relations = "".join(f"relation any input ( add {k} ) output equal ( );" for k in range(12))
        for k in range(12):
            with self.subTest(k):
                self.assertEqual(answer_behind("program ( );" + relations, turned(k, 7)), outcome([7 + k]))


if __name__ == "__main__":
    unittest.main()
