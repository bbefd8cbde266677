"""Holds what README.md says of its examples against what the program tells."""

import ast
import pathlib
import re
import unittest

README = pathlib.Path(__file__).resolve().parent.parent / "README.md"


class Examples(unittest.TestCase):
    def test_each_row_tells_what_stands_behind_it(self):
        names, rows = {}, 0
        for block in re.findall(r"```python\n(.*?)```", README.read_text(), re.DOTALL):
            # Row by row, each once: a deed that is done twice tells something else.
            for node in ast.parse(block).body:
                asked = ast.get_source_segment(block, node)
                if not isinstance(node, ast.Expr):
                    exec(asked, names)
                    continue
                told = block.splitlines()[node.end_lineno - 1][node.end_col_offset:].strip()
                value = repr(eval(asked, names))
                self.assertRegex(told, "^# " + re.escape(value) + "($|[:,] )", asked)
                rows += 1
        self.assertGreater(rows, 35)


if __name__ == "__main__":
    unittest.main()
