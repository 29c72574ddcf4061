"""The example of README.md answers as it says there."""

import ast
import pathlib
import re
import unittest

from rankbouts.tournament import answers

README = pathlib.Path(__file__).resolve().parent.parent / "README.md"


class Example(unittest.TestCase):
    def test_it_answers_as_it_says(self):
        asked, told = re.search(r"    answers\((\[.*\])\)\n    # (\[.*\])\n", README.read_text()).groups()
        self.assertEqual(answers(ast.literal_eval(asked)), ast.literal_eval(told))


if __name__ == "__main__":
    unittest.main()
