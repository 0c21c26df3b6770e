"""Promise 3 as far as it speaks of shown and told: the one form, and a text as numbers."""

import unittest

from helper import EXAMPLE, answer_behind, ask, load, shown, shown_as_text, told

STEPS = (
    ("add -99", [0, -99]), ("times 12", [1, 12]), ("rest 9", [2, 9]), ("abs", [3]), ("sort", [4]),
    ("reverse", [5]), ("rotate 0", [6, 0]), ("take 7", [7, 7]), ("drop 3", [8, 3]), ("above -1", [9, -1]),
    ("once", [10]), ("sum", [11]), ("greatest", [12]), ("least", [13]), ("count", [14]), ("steps", [15]),
    ("sums", [16]), ("twice", [17]),
)
CONDITIONS = (
    ("any", [0]), ("some", [1]), ("rising", [2]), ("plus", [3]), ("unlike", [4]),
    ("atleast 0", [5, 0]), ("atleast 9", [5, 9]),
)
STANDINGS = ("equal", "bag", "numbers", "most", "least", "begins", "long")


class Shown(unittest.TestCase):
    def test_the_lines_of_the_document(self):
        text = "program(abs take2);relation any input(add-1)output equal();"
        one_form = "program ( abs take 2 );\nrelation any input ( add -1 ) output equal ( );\n"
        self.assertEqual(shown_as_text(text), one_form)

    def test_no_steps(self):
        self.assertEqual(shown_as_text(" program\n(\n)\n; "), "program ( );\n")

    def test_example(self):
        self.assertEqual(shown_as_text(EXAMPLE), EXAMPLE.replace("; ", ";\n") + "\n")

    def test_bytes(self):
        answer = answer_behind("program();", shown())
        self.assertEqual(answer, [13, 112, 114, 111, 103, 114, 97, 109, 32, 40, 32, 41, 59, 10])

    def test_every_step(self):
        for step, _ in STEPS:
            with self.subTest(step):
                self.assertEqual(shown_as_text(f"program({step});"), f"program ( {step} );\n")

    def test_several_steps(self):
        text = "program(add-3add 3take0 above - 99);"
        self.assertEqual(shown_as_text(text), "program ( add -3 add 3 take 0 above -99 );\n")

    def test_every_condition_and_standing(self):
        for condition, _ in CONDITIONS:
            for standing in STANDINGS:
                with self.subTest(condition=condition, standing=standing):
                    lines = "program ( );\n"
                    lines += f"relation {condition} input ( sort take 1 ) output {standing} ( rest 2 sum );\n"
                    self.assertEqual(shown_as_text(lines.replace("\n", "  \n ").replace(" )", ")")), lines)

    def test_the_longest(self):
        # As many steps and relations as there may be, written as close as can be, in 1500 bytes.
        steps = "(" + "add1" * 8 + ")"
        text = f"program{steps};" + f"relation atleast2input{steps}output most{steps};" * 12
        text = text.replace("add1", "add-99", 117)
        self.assertEqual(len(text), 1500)
        answer = answer_behind(text, shown())
        self.assertEqual(answer[0], 1999)
        self.assertEqual(len(answer), 2000)
        self.assertEqual(shown_as_text(text).replace(" ", "").replace("\n", ""), text.replace(" ", ""))

    def test_the_one_form_reads_as_the_text_did(self):
        one_form = shown_as_text(EXAMPLE)
        self.assertEqual(shown_as_text(one_form), one_form)
        self.assertEqual(answer_behind(one_form, told()), answer_behind(EXAMPLE, told()))

    def test_without_a_text(self):
        self.assertEqual(ask(shown()), [[-8]])


class Told(unittest.TestCase):
    def test_example(self):
        program = [3, 3, 4, 7, 2]
        relations = [[0, 1, 5, 0, 0], [1, 1, 1, -1, 0, 0], [0, 1, 0, 1, 4, 0]]
        self.assertEqual(answer_behind(EXAMPLE, told()), program + [3] + sum(relations, []))

    def test_no_steps(self):
        self.assertEqual(answer_behind("program ( );", told()), [0, 0])

    def test_every_step(self):
        for step, numbers in STEPS:
            with self.subTest(step):
                self.assertEqual(answer_behind(f"program ( {step} );", told()), [1, *numbers, 0])
                text = f"program ( ); relation any input ( {step} ) output equal ( {step} {step} );"
                relation = [0, 1, *numbers, 0, 2, *numbers, *numbers]
                self.assertEqual(answer_behind(text, told()), [0, 1, *relation])

    def test_every_condition_and_standing(self):
        for condition, numbers in CONDITIONS:
            for number, standing in enumerate(STANDINGS):
                with self.subTest(condition=condition, standing=standing):
                    text = f"program ( ); relation {condition} input ( abs ) output {standing} ( take 4 sum );"
                    relation = [*numbers, 1, 3, number, 2, 7, 4, 11]
                    self.assertEqual(answer_behind(text, told()), [0, 1, *relation])

    def test_twelve_relations(self):
        relations = "".join(f"relation atleast {k % 10} input ( ) output long ( );" for k in range(12))
        numbers = [[5, k % 10, 0, 6, 0] for k in range(12)]
        self.assertEqual(answer_behind("program ( );" + relations, told()), [0, 12] + sum(numbers, []))

    def test_without_a_text(self):
        self.assertEqual(ask(told()), [[-8]])

    def test_the_text_loaded_last(self):
        apart = ask(load(EXAMPLE), load("program ( abs );"), told(), load(EXAMPLE), told())
        self.assertEqual(apart[2], [1, 3, 0])
        self.assertEqual(apart[4], answer_behind(EXAMPLE, told()))


if __name__ == "__main__":
    unittest.main()
