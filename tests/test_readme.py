"""The examples in README.md answer what it says beside them."""

import ast
import os
import re
import unittest

README = os.path.join(os.path.dirname(os.path.dirname(os.path.abspath(__file__))), "README.md")
EXAMPLE = re.compile(r"^    (\w+\(.*\)) +# (\[.*?\]):", re.MULTILINE)
SETTING = re.compile(r"^    from .*?^    \)$", re.MULTILINE | re.DOTALL)


class Examples(unittest.TestCase):
    def test_answers(self):
        with open(README, encoding="utf-8") as source:
            told = source.read()
        names = {}
        exec("if True:\n" + SETTING.search(told).group(), names)
        examples = EXAMPLE.findall(told)
        self.assertEqual(len(examples), len(re.findall(r"^### \w+\(", told, re.MULTILINE)))
        for call, answered in examples:
            self.assertEqual(eval(call, names), ast.literal_eval(answered), call)


if __name__ == "__main__":
    unittest.main()
