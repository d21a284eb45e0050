"""What README.md shows is so: behind each call stands what it returns."""

import ast
import pathlib
import re
import unittest

README = pathlib.Path(__file__).resolve().parent.parent / "README.md"


def value_of(node, names):
    return eval(compile(ast.Expression(node), "README.md", "eval"), names)


def run(node, names):
    exec(compile(ast.Module([node], []), "README.md", "exec"), names)


class ReadmeTest(unittest.TestCase):
    def agree(self, value, lines, node):
        told = lines[node.end_lineno - 1].split("# ", 1)[1]
        self.assertTrue(told.startswith(repr(value).replace("'", '"')), f"{value!r}: {told}")

    def look_at(self, block):
        names = {}
        lines = block.splitlines()
        for node in ast.parse(block).body:
            if isinstance(node, ast.Expr):
                self.agree(value_of(node.value, names), lines, node)
            elif isinstance(node, ast.Try):
                with self.assertRaises((ValueError, LookupError)) as caught:
                    run(node.body[0], names)
                names["error"] = caught.exception
                told = node.handlers[0].body[0]
                self.assertEqual(type(caught.exception).__name__, node.handlers[0].type.id)
                self.agree(value_of(told.value, names), lines, told)
            else:
                run(node, names)

    def test_all_blocks(self):
        blocks = re.findall(r"```python\n(.*?)```", README.read_text(encoding="ascii"), re.DOTALL)
        self.assertGreater(len(blocks), 6)
        for block in blocks:
            self.look_at(block)
