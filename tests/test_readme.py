"""The examples of README.md."""

import ast
import pathlib
import re
import unittest

README = pathlib.Path(__file__).resolve().parent.parent / "README.md"


def examples():
    """Return the expressions of README.md with what they are said to be, evaluated in one go."""
    rows, names = [], {}
    for block in re.findall(r"```python\n(.*?)```", README.read_text(encoding="utf-8"), re.DOTALL):
        lines = block.split("\n")
        for node in ast.parse(block).body:
            if isinstance(node, ast.Expr):
                expression = ast.unparse(node)
                told = lines[node.end_lineno - 1].partition("  # ")[2]
                rows.append((expression, eval(expression, names), told))
            else:
                exec(ast.unparse(node), names)
    return rows


class ReadmeTest(unittest.TestCase):
    def test_examples(self):
        rows = examples()
        self.assertGreater(len(rows), 70)
        for expression, value, told in rows:
            with self.subTest(expression=expression):
                self.assertEqual(repr(value), told.strip())


if __name__ == "__main__":
    unittest.main()
