"""The examples of README.md answer what stands beside them."""

import ast
import pathlib
import re
import unittest

README = pathlib.Path(__file__).resolve().parent.parent / "README.md"


def examples(text):
    """Each expression, with the names to ask it in and the remark beside it or below it."""
    found = []
    for block in re.findall(r"```python\n(.*?)```", text, re.DOTALL):
        names = {}
        rows = block.split("\n")
        for node in ast.parse(block).body:
            if not isinstance(node, ast.Expr):
                exec(compile(ast.Module([node], []), "README.md", "exec"), names)
                continue
            row = rows[node.end_lineno - 1]
            remark = row.partition("#")[2] or rows[node.end_lineno].partition("#")[2]
            found.append((names, ast.unparse(node), remark.strip()))
    return found


def answer_of(remark):
    # Behind the answer a colon and a reason may stand; no answer has a colon itself.
    return ast.literal_eval(remark.partition(":")[0])


class TheExamples(unittest.TestCase):
    def test_each_answers_what_is_told(self):
        found = examples(README.read_text(encoding="utf-8"))
        self.assertEqual(len(found), 10)
        for names, asked, remark in found:
            self.assertEqual(eval(asked, names), answer_of(remark), asked)


if __name__ == "__main__":
    unittest.main()
