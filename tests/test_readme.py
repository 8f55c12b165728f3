"""The example of README.md answers what stands there."""

import ast
import pathlib
import re
import unittest

from backchains.chain import answers

README = pathlib.Path(__file__).resolve().parent.parent / "README.md"


class Readme(unittest.TestCase):
    def test_the_example(self):
        text = README.read_text()
        calls = re.search(r"answers\((\[\n.*?\])\)", text, re.DOTALL).group(1)
        told = re.search(r"^# (\[.*?\])$", text, re.MULTILINE | re.DOTALL).group(1).replace("#", "")
        self.assertEqual(answers(ast.literal_eval(calls)), ast.literal_eval(told))


if __name__ == "__main__":
    unittest.main()
