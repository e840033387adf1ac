"""The README's rows tell what the program tells."""

import os
import re
import unittest

README = os.path.join(os.path.dirname(os.path.dirname(os.path.abspath(__file__))), "README.md")


class ReadmeTest(unittest.TestCase):
    def setUp(self):
        with open(README, encoding="utf-8") as file:
            self.text = file.read()

    def test_examples(self):
        code = re.search(r"```python\n(.*?)```", self.text, re.DOTALL).group(1)
        names = {}
        exec(code, names)
        rows = re.findall(r"^(\w+\(.*\)) +# (True|\d+|\[.*?\])(?=$|[;:]| steps)", code, re.MULTILINE)
        self.assertEqual(len(rows), 8)
        for asked, told in rows:
            self.assertEqual(eval(asked, names), eval(told), asked)

    def test_it_says_how_the_tests_are_run(self):
        self.assertIn(".ci/run", self.text)


if __name__ == "__main__":
    unittest.main()
