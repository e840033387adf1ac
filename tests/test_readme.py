"""The README's rows tell what the program tells."""

import ast
import os
import re
import unittest

README = os.path.join(os.path.dirname(os.path.dirname(os.path.abspath(__file__))), "README.md")


def told_behind(line):
    """What a row's comment says is told: the longest beginning, up to a semicolon or a colon, that is a value."""
    comment = line.split("# ", 1)[1]
    ends = [len(comment)] + [found.start() for found in re.finditer(r"[;:] ", comment)]
    for end in sorted(ends, reverse=True):
        try:
            return ast.literal_eval(comment[:end])
        except SyntaxError:
            pass
    raise AssertionError(line)


class ReadmeTest(unittest.TestCase):
    def setUp(self):
        with open(README, encoding="utf-8") as file:
            self.text = file.read()

    def blocks(self):
        return re.findall(r"```python\n(.*?)```", self.text, re.DOTALL)

    def test_examples(self):
        names = {}
        rows = 0
        for code in self.blocks():
            for statement in ast.parse(code).body:
                part = ast.get_source_segment(code, statement)
                if not isinstance(statement, ast.Expr):
                    exec(part, names)
                    continue
                told = told_behind(code.splitlines()[statement.end_lineno - 1])
                self.assertEqual(repr(eval(part, names)), repr(told), part)
                rows += 1
        self.assertGreaterEqual(rows, 8)

    def test_each_module_is_shown(self):
        package = os.path.join(os.path.dirname(README), "farend")
        for name in os.listdir(package):
            # The one helper that nobody needs to call.
            if name.endswith(".py") and name not in ("__init__.py", "crew.py"):
                self.assertIn("farend." + name[:-3], self.text)

    def test_it_says_how_the_tests_are_run(self):
        self.assertIn(".ci/run", self.text)


if __name__ == "__main__":
    unittest.main()
