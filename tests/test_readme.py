"""README.md: it tells all nine calls, and its examples hold."""

import ast
import pathlib
import re
import unittest

from fingertaps.game import answers

README = (pathlib.Path(__file__).resolve().parent.parent / "README.md").read_text()


class Readme(unittest.TestCase):
    def test_all_nine_calls_are_told(self):
        rows = re.findall(r"^\| (\w+) +\| (\d[^|]*?) +\| ([^|]+?) +\|(.*)\|$", README, re.MULTILINE)
        self.assertEqual([row[:2] for row in rows], [
            ("rules", "0, full, over, shares"), ("stand", "1, a, b, c, d"), ("turns", "2"), ("take", "3, k"),
            ("worth", "4"), ("good", "5"), ("play", "6, n"), ("kinds", "7"), ("hardest", "8")])
        refusals = {row[0]: re.findall(r"-\d", row[3]) for row in rows if row[3].strip()}
        self.assertEqual(refusals, {"rules": ["-1"], "stand": ["-1", "-3"], "take": ["-2"], "play": ["-1"]})

    def test_its_examples_hold(self):
        examples = re.findall(r"^    answers\((\[.*\])\)\n    # (\[.*\])$", README, re.MULTILINE)
        self.assertEqual(len(examples), 2)
        for calls, given in examples:
            with self.subTest(calls=calls):
                self.assertEqual(answers(ast.literal_eval(calls)), ast.literal_eval(given))


if __name__ == "__main__":
    unittest.main()
