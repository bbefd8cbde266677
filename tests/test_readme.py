"""Holds what README.md says of its examples against what the program tells."""

import pathlib
import re
import unittest

README = pathlib.Path(__file__).resolve().parent.parent / "README.md"


class Examples(unittest.TestCase):
    def test_each_row_tells_what_stands_behind_it(self):
        names, rows = {}, 0
        for block in re.findall(r"```python\n(.*?)```", README.read_text(), re.DOTALL):
            exec(block, names)
            for asked, told in re.findall(r"^(\w+\(.*\)) +# (.+)$", block, re.MULTILINE):
                value = repr(eval(asked, names))
                self.assertRegex(told, "^" + re.escape(value) + "($|[:,] )", asked)
                rows += 1
        self.assertGreater(rows, 15)


if __name__ == "__main__":
    unittest.main()
