"""Tests that the examples of README.md run, and give what stands beside them."""

import ast
import pathlib
import unittest

README = pathlib.Path(__file__).resolve().parent.parent / "README.md"


def examples():
    """Return the Python code of the file, in its order."""
    parts = README.read_text(encoding="utf-8").split("```python\n")[1:]
    return [part.split("```")[0] for part in parts]


class ReadmeTest(unittest.TestCase):
    def test_the_examples(self):
        names = {}
        for example in examples():
            exec(compile(example, str(README), "exec"), names)
        self.assertEqual(names["store"].last_commit(), 2)
        self.assertEqual(names["tree"].all_items(), [(9, 1, (6, -6))])

    def test_what_stands_beside_the_calls(self):
        names = {}
        compared = 0
        for example in examples():
            lines = example.split("\n")
            for statement in ast.parse(example).body:
                code = ast.unparse(statement)
                _, _, told = lines[statement.end_lineno - 1].partition("  # ")
                if isinstance(statement, ast.Expr) and told[:1] in "[(0123456789" and told and ".." not in told:
                    found = repr(eval(code, names))
                    self.assertEqual(told[:len(found)], found, code)
                    compared += 1
                else:
                    exec(code, names)
        self.assertGreater(compared, 15)


if __name__ == "__main__":
    unittest.main()
