"""The examples of README.md tell what it says of them."""

import ast
import pathlib
import re
import unittest

README = pathlib.Path(__file__).resolve().parent.parent / "README.md"


def due_by(row):
    """(True, what the remark behind a row says is told), or (False, None) where it says something else."""
    remark = row.partition("  # ")[2]
    for text in (remark, remark.partition(": ")[0]):
        try:
            return True, ast.literal_eval(text)
        except (SyntaxError, ValueError):
            pass
    return False, None


class ReadmeTest(unittest.TestCase):
    def test_examples(self):
        names = {}
        seen = 0
        for block in re.findall(r"```python\n(.*?)```", README.read_text("utf-8"), re.S):
            rows = block.split("\n")
            for node in ast.parse(block).body:
                text = ast.unparse(node)
                told = eval(text, names) if isinstance(node, ast.Expr) else exec(text, names)
                row = rows[node.end_lineno - 1]
                said, due = due_by(row)
                if said and isinstance(node, (ast.Assign, ast.Expr)):
                    seen += 1
                    self.assertEqual(names[node.targets[0].id] if isinstance(node, ast.Assign) else told, due, row)
        self.assertGreater(seen, 50)


if __name__ == "__main__":
    unittest.main()
