"""What README.md says is so."""

import ast
import pathlib
import re
import unittest

from walktree.walked import answers

README = (pathlib.Path(__file__).resolve().parent.parent / "README.md").read_text("utf-8")


class Readme(unittest.TestCase):
    def test_the_example_answers_what_stands_there(self):
        calls = re.search(r"^answers\((.*)\)$", README, re.MULTILINE).group(1)
        answered = re.search(r"^# (\[.*\])$", README, re.MULTILINE).group(1)
        self.assertEqual(answers(ast.literal_eval(calls)), ast.literal_eval(answered))

    def test_all_calls_are_told(self):
        rows = re.findall(r"^\| (\w+) \| (\d)", README, re.MULTILINE)
        names = ("begin", "add", "drop", "fold", "go", "pick", "at", "show")
        self.assertEqual(rows, [(name, str(number)) for number, name in enumerate(names)])

    def test_nothing_is_said_to_be_missing(self):
        for words in ("not built", "KeyError"):
            self.assertNotIn(words, README)


if __name__ == "__main__":
    unittest.main()
