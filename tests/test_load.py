"""Promise 1: load, its refusal, and the faults of a text with their places."""

import unittest

from helper import EXAMPLE, ask, load, loaded, shown, told

STEP_WORDS = (
    "add 3", "times 3", "rest 3", "abs", "sort", "reverse", "rotate 3", "take 3", "drop 3", "above 3",
    "once", "sum", "greatest", "least", "count", "steps", "sums", "twice",
)
CONDITIONS = ("any", "some", "rising", "plus", "unlike", "atleast 3")
STANDINGS = ("equal", "bag", "numbers", "most", "least", "begins", "long")
RELATION = "relation any input ( ) output equal ( );"


def padded(text, length):
    return text + " " * (length - len(text))


class TextsWithoutFault(unittest.TestCase):
    def test_example(self):
        self.assertEqual(loaded(EXAMPLE), [0, 3, 3])

    def test_nothing_but_a_program(self):
        self.assertEqual(loaded("program ( );"), [0, 0, 0])

    def test_every_step(self):
        for step in STEP_WORDS:
            with self.subTest(step):
                self.assertEqual(loaded(f"program ( {step} );"), [0, 1, 0])

    def test_every_condition_and_standing(self):
        for condition in CONDITIONS:
            for standing in STANDINGS:
                with self.subTest(condition=condition, standing=standing):
                    text = f"program ( ); relation {condition} input ( sort ) output {standing} ( abs );"
                    self.assertEqual(loaded(text), [0, 0, 1])

    def test_blanks_are_not_needed_where_tokens_end_by_themselves(self):
        text = "program(add-3take2abs)" + ";relation atleast2input(rest4)output most(drop0);"
        self.assertEqual(loaded(text), [0, 3, 1])

    def test_blanks_and_line_feeds_mean_nothing(self):
        text = " \n\n program\n(\nadd\n-\n \n3 ) \n; \n relation\nany input\n( ) output\nequal ( )\n;\n \n"
        self.assertEqual(loaded(text), [0, 1, 1])

    def test_numbers_at_their_ends(self):
        for word in ("add", "times", "above"):
            for number in ("-99", "-1", "0", "9", "10", "99", "- 99"):
                with self.subTest(word=word, number=number):
                    self.assertEqual(loaded(f"program ( {word} {number} );"), [0, 1, 0])
        for word in ("rest 1", "rest 9", "rotate 0", "rotate 9", "take 0", "take 9", "drop 0", "drop 9"):
            with self.subTest(word):
                self.assertEqual(loaded(f"program ( {word} );"), [0, 1, 0])
        for condition in ("atleast 0", "atleast 9"):
            with self.subTest(condition):
                text = f"program ( ); relation {condition} input ( ) output long ( );"
                self.assertEqual(loaded(text), [0, 0, 1])

    def test_eight_steps(self):
        steps = "abs " * 8
        self.assertEqual(loaded(f"program ( {steps});"), [0, 8, 0])
        text = f"program ( ); relation any input ( {steps}) output equal ( {steps});"
        self.assertEqual(loaded(text), [0, 0, 1])

    def test_twelve_relations(self):
        self.assertEqual(loaded("program ( sum );" + RELATION * 12), [0, 1, 12])

    def test_a_text_takes_the_place_of_the_one_before(self):
        apart = ask(load(EXAMPLE), load("program ( sum );"), told())
        self.assertEqual(apart, [[0, 3, 3], [0, 1, 0], [1, 11, 0]])


class TooLong(unittest.TestCase):
    def test_at_most_1500_bytes(self):
        self.assertEqual(loaded(padded("program ( );", 1500)), [0, 0, 0])
        self.assertEqual(loaded(padded("program ( );", 1501)), [-1])
        self.assertEqual(loaded(padded("program ( );", 1600)), [-1])

    def test_a_fault_is_told_up_to_1500_bytes(self):
        self.assertEqual(loaded(padded("?", 1500)), [1, 1, 0])
        self.assertEqual(loaded(padded("program", 1500)), [1, 2, 1500])

    def test_a_text_too_long_is_refused_ahead_of_its_faults(self):
        self.assertEqual(loaded(padded("?", 1501)), [-1])
        self.assertEqual(loaded([255] * 1600), [-1])

    def test_nothing_changes(self):
        apart = ask(load(EXAMPLE), shown(), load(padded("program ( );", 1501)), shown())
        self.assertEqual(apart[2], [-1])
        self.assertEqual(apart[3], apart[1])

    def test_no_text_comes_of_it(self):
        self.assertEqual(ask(load(padded("program ( );", 1501)), shown()), [[-1], [-8]])


class Fault1(unittest.TestCase):
    def test_every_byte_that_no_token_has(self):
        tokens = b"abcdefghijklmnopqrstuvwxyz0123456789();- \n"
        for byte in range(256):
            with self.subTest(byte=byte):
                answer = loaded(list(b"program ( );") + [byte])
                if byte in tokens:
                    self.assertNotEqual(answer[:2], [1, 1])
                else:
                    self.assertEqual(answer, [1, 1, 12])

    def test_a_word_of_nine_letters(self):
        self.assertEqual(loaded("program ( abcdefghi );"), [1, 1, 10])
        self.assertEqual(loaded("program ( abcdefgh );"), [1, 2, 10])
        self.assertEqual(loaded("programs"), [1, 2, 0])
        self.assertEqual(loaded("programabs ( );"), [1, 1, 0])

    def test_a_long_run_has_its_fault_at_its_first_byte(self):
        self.assertEqual(loaded("program ( " + "z" * 100), [1, 1, 10])
        self.assertEqual(loaded("program ( add " + "1" * 100), [1, 1, 14])

    def test_a_number_of_three_digits(self):
        self.assertEqual(loaded("program ( add 100 );"), [1, 1, 14])
        self.assertEqual(loaded("program ( add -100 );"), [1, 1, 15])

    def test_a_number_with_a_zero_in_front(self):
        for number in ("00", "01", "09", "007"):
            with self.subTest(number):
                self.assertEqual(loaded(f"program ( add {number} );"), [1, 1, 14])
                self.assertEqual(loaded(f"program ( add -{number} );"), [1, 1, 15])

    def test_the_first_of_several_counts(self):
        self.assertEqual(loaded("program ( 012 ? abcdefghijk );"), [1, 1, 10])
        self.assertEqual(loaded("program ( ? 012 abcdefghijk );"), [1, 1, 10])
        self.assertEqual(loaded("A?"), [1, 1, 0])

    def test_it_is_behind_a_token_at_once(self):
        self.assertEqual(loaded("program();abs?"), [1, 1, 13])
        self.assertEqual(loaded("program(take2?);"), [1, 1, 13])

    def test_it_goes_ahead_of_all_others(self):
        steps = "abs " * 9
        for text in ("zzz ", "program ( rest 0 ", "program ( add -0 ", f"program ( {steps}", RELATION * 13):
            with self.subTest(text):
                self.assertEqual(loaded(text)[0], 1)
                self.assertNotEqual(loaded(text)[1], 1)
                self.assertEqual(loaded(text + "?"), [1, 1, len(text)])
                self.assertEqual(loaded(text + "00"), [1, 1, len(text)])


class Fault2(unittest.TestCase):
    TOKENS = (
        "program ( add - 3 abs ) ; relation atleast 2 input ( take 1 ) output equal ( reverse ) ; "
        "relation any input ( ) output least ( ) ;"
    ).split(" ")

    def place_of(self, number):
        return len("".join(token + " " for token in self.TOKENS[:number]))

    def test_the_tokens_as_they_stand(self):
        self.assertEqual(loaded(" ".join(self.TOKENS)), [0, 2, 2])

    def test_a_wrong_word_at_each_place(self):
        for number in range(len(self.TOKENS) + 1):
            for wrong in ("zzz", "programs"):
                with self.subTest(number=number, wrong=wrong):
                    text = " ".join([*self.TOKENS[:number], wrong, *self.TOKENS[number + 1:]])
                    self.assertEqual(loaded(text), [1, 2, self.place_of(number)])

    def test_a_wrong_sign_at_each_place(self):
        for number in range(len(self.TOKENS)):
            for wrong in ("(", ")", ";", "-", "5", "relation", "input", "equal", "any"):
                # A sign that may stand there is none for this test.
                before = self.TOKENS[number - 1] if number > 0 else ""
                may_stand = wrong == self.TOKENS[number]
                may_stand = may_stand or wrong == "5" and (before in ("add", "-", "atleast", "take"))
                may_stand = may_stand or wrong == ")" and (before in ("3", "("))
                may_stand = may_stand or wrong == "any" and before == "relation"
                may_stand = may_stand or wrong == "equal" and before == "output"
                if not may_stand:
                    with self.subTest(number=number, wrong=wrong):
                        text = " ".join([*self.TOKENS[:number], wrong, *self.TOKENS[number + 1:]])
                        self.assertEqual(loaded(text), [1, 2, self.place_of(number)])

    def test_an_end_at_each_place(self):
        for number in range(len(self.TOKENS)):
            if number == 0 or self.TOKENS[number - 1] != ";":
                for behind in ("", " ", " \n "):
                    with self.subTest(number=number, behind=behind):
                        text = " ".join(self.TOKENS[:number]) + behind
                        self.assertEqual(loaded(text), [1, 2, len(text)])

    def test_no_bytes(self):
        self.assertEqual(loaded(""), [1, 2, 0])
        self.assertEqual(loaded(" \n "), [1, 2, 3])

    def test_words_at_the_place_of_others(self):
        relation = "program ( ); relation "
        self.assertEqual(loaded(relation + "least input"), [1, 2, len(relation)])
        self.assertEqual(loaded(relation + "equal input"), [1, 2, len(relation)])
        output = "program ( ); relation any input ( ) output "
        for word in ("any", "abs", "greatest", "(", "atleast"):
            with self.subTest(word):
                self.assertEqual(loaded(output + word), [1, 2, len(output)])
        for word in ("most", "any", "equal", "program", "atleast", "output", "begins"):
            with self.subTest(word):
                self.assertEqual(loaded(f"program ( {word}"), [1, 2, 10])

    def test_a_minus_sign_where_none_can_stand(self):
        for word in ("rest", "rotate", "take", "drop"):
            for number in ("-1", "-0", "-10"):
                with self.subTest(word=word, number=number):
                    text = f"program ( {word} "
                    self.assertEqual(loaded(text + number + " );"), [1, 2, len(text)])
        text = "program ( ); relation atleast "
        self.assertEqual(loaded(text + "-0 input"), [1, 2, len(text)])
        self.assertEqual(loaded("program ( abs -0 );"), [1, 2, 14])
        self.assertEqual(loaded("program ( add - -0 );"), [1, 2, 16])

    def test_a_number_where_none_can_stand(self):
        self.assertEqual(loaded("program ( abs 1 );"), [1, 2, 14])
        self.assertEqual(loaded("program ( add 1 1 );"), [1, 2, 16])
        self.assertEqual(loaded("program ( 1 );"), [1, 2, 10])
        self.assertEqual(loaded("program ( ); relation any 1 input"), [1, 2, 26])

    def test_no_number_where_one_has_to_stand(self):
        for word in ("add", "times", "above", "rest", "rotate", "take", "drop"):
            with self.subTest(word):
                text = f"program ( {word} "
                self.assertEqual(loaded(text + ");"), [1, 2, len(text)])
                self.assertEqual(loaded(text + "abs );"), [1, 2, len(text)])
        self.assertEqual(loaded("program ( ); relation atleast input"), [1, 2, 30])
        self.assertEqual(loaded("program ( add -"), [1, 2, 15])

    def test_a_program_behind_a_program(self):
        self.assertEqual(loaded("program ( ); program ( );"), [1, 2, 13])


class Fault3(unittest.TestCase):
    WORDS = (
        "rest 0", "rest 10", "rest 99", "rotate 10", "rotate 99", "take 10", "take 99", "drop 10", "drop 99",
        "add -0", "times -0", "above -0", "add - 0", "times \n-\n0",
    )

    def place_in(self, words):
        return min(words.index(sign) for sign in "-0123456789" if sign in words)

    def test_in_a_program(self):
        for words in self.WORDS:
            with self.subTest(words):
                place = 10 + self.place_in(words)
                self.assertEqual(loaded(f"program ( {words} );"), [1, 3, place])

    def test_in_turnings(self):
        for words in self.WORDS:
            for ahead in (
                "program ( ); relation any input ( ",
                "program ( ); relation any input ( ) output equal ( ",
            ):
                with self.subTest(words=words, ahead=ahead):
                    place = len(ahead) + self.place_in(words)
                    self.assertEqual(loaded(ahead + words), [1, 3, place])

    def test_in_a_condition(self):
        ahead = "program ( ); relation atleast "
        for number in ("10", "11", "99"):
            with self.subTest(number):
                text = ahead + number + " input ( ) output equal ( );"
                self.assertEqual(loaded(text), [1, 3, len(ahead)])

    def test_the_first_counts(self):
        self.assertEqual(loaded("program ( take 9 take 10 rest 0 );"), [1, 3, 22])


class Fault4(unittest.TestCase):
    EIGHT = "abs " * 8

    def test_a_ninth_step(self):
        for ahead in (
            "program ( ",
            "program ( ); relation any input ( ",
            "program ( ); relation any input ( ) output equal ( ",
        ):
            for step in STEP_WORDS:
                with self.subTest(ahead=ahead, step=step):
                    text = ahead + self.EIGHT + step + " ); ("
                    self.assertEqual(loaded(text), [1, 4, len(ahead + self.EIGHT)])

    def test_a_ninth_word_that_is_no_step(self):
        self.assertEqual(loaded(f"program ( {self.EIGHT}any );"), [1, 2, 42])
        self.assertEqual(loaded(f"program ( {self.EIGHT}9 );"), [1, 2, 42])

    def test_a_ninth_step_goes_ahead_of_its_number(self):
        self.assertEqual(loaded(f"program ( {self.EIGHT}rest 0 );"), [1, 4, 42])
        self.assertEqual(loaded(f"program ( {self.EIGHT}add );"), [1, 4, 42])

    def test_a_thirteenth_relation(self):
        ahead = "program ( sum ); " + RELATION * 12
        self.assertEqual(loaded(ahead + RELATION), [1, 4, len(ahead)])
        self.assertEqual(loaded(ahead + "relation"), [1, 4, len(ahead)])
        self.assertEqual(loaded(ahead + " \nrelation zzz"), [1, 4, len(ahead) + 2])
        self.assertEqual(loaded(ahead + "input"), [1, 2, len(ahead)])


class WhichFaultCounts(unittest.TestCase):
    def test_the_one_that_reading_comes_to_first(self):
        eight = "abs " * 8
        self.assertEqual(loaded("program ( rest 0 zzz );"), [1, 3, 15])
        self.assertEqual(loaded("program ( zzz rest 0 );"), [1, 2, 10])
        self.assertEqual(loaded(f"program ( take 10 {eight}abs );"), [1, 3, 15])
        self.assertEqual(loaded(f"program ( {eight}abs take 10 );"), [1, 4, 42])
        self.assertEqual(loaded(f"program ( {eight}abs zzz );"), [1, 4, 42])
        self.assertEqual(loaded(f"program ( zzz {eight}abs );"), [1, 2, 10])
        self.assertEqual(loaded("program ( add -0 "), [1, 3, 14])


class NothingChangesBesideAFault(unittest.TestCase):
    def test_the_text_stays(self):
        faulty = ("?", "program", "program ( rest 0 );", "program ( " + "abs " * 9 + ");", "program ( sum ); zzz")
        for text in faulty:
            with self.subTest(text):
                apart = ask(load(EXAMPLE), shown(), load(text), shown(), told())
                self.assertEqual(apart[2][0], 1)
                self.assertEqual(apart[3], apart[1])
                self.assertEqual(apart[4], ask(load(EXAMPLE), told())[1])

    def test_no_text_comes_of_it(self):
        self.assertEqual(ask(load("program ( sum ); zzz"), told()), [[1, 2, 17], [-8]])


if __name__ == "__main__":
    unittest.main()
