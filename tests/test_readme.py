"""What README.md shows: each row of its code tells what stands behind it."""

import ast
import os
import re
import unittest

README = os.path.join(os.path.dirname(os.path.dirname(os.path.abspath(__file__))), "README.md")


def blocks():
    """The blocks of Python code in README.md."""
    with open(README, encoding="utf-8") as file:
        return re.findall(r"```python\n(.*?)```", file.read(), re.DOTALL)


def worth(comment, names):
    """What a comment tells: the value at its beginning, with or without words behind a colon."""
    parts = comment.split(": ")
    for many in range(len(parts), 0, -1):
        try:
            return eval(": ".join(parts[:many]), dict(names))
        except (SyntaxError, NameError):
            continue
    raise AssertionError(comment)


class Readme(unittest.TestCase):
    def test_each_row(self):
        names = {}
        found = 0
        for block in blocks():
            rows = block.split("\n")
            for part in ast.parse(block).body:
                code = ast.unparse(part)
                comment = rows[part.end_lineno - 1].partition("  # ")[2].strip()
                told = eval(code, names) if isinstance(part, ast.Expr) else exec(code, names)
                if comment and isinstance(part, ast.Assign):
                    told = names[part.targets[0].id]
                if comment and not isinstance(part, ast.Try):
                    self.assertEqual(told, worth(comment, names), code)
                    found += 1
        self.assertGreater(found, 100)


if __name__ == "__main__":
    unittest.main()
