"""README.md tells of all calls, and its examples answer what stands there."""

import doctest
import pathlib
import unittest

README = pathlib.Path(__file__).resolve().parent.parent / "README.md"
CALLS = ("load", "shown", "told", "run", "rows", "turned", "sides", "verdict", "bound", "input", "at")


class Readme(unittest.TestCase):
    def test_each_call_has_its_line(self):
        lines = README.read_text(encoding="ascii").split("\n")
        cells = [[cell.strip() for cell in line.split("|")] for line in lines if line.startswith("|")]
        for number, name in enumerate(CALLS):
            with self.subTest(name):
                found = [row for row in cells if row[1] == name]
                self.assertEqual(len(found), 1)
                self.assertEqual(found[0][2].split(",")[0], str(number))

    def test_examples(self):
        outcome = doctest.testfile(str(README), module_relative=False, encoding="ascii")
        self.assertEqual(outcome.failed, 0)
        self.assertGreater(outcome.attempted, 0)


if __name__ == "__main__":
    unittest.main()
