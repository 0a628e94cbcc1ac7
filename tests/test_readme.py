"""What README.md says that comes of its rows does come of them."""

import ast
import contextlib
import io
import pathlib
import re
import unittest

README = pathlib.Path(__file__).resolve().parent.parent / "README.md"


def outcome(code, names):
    """What a row prints, or else what it tells."""
    printed = io.StringIO()
    with contextlib.redirect_stdout(printed):
        value = eval(code, names)
    return printed.getvalue().rstrip("\n") or repr(value)


def told_behind(rows, place):
    """The rows of the comment that begins there."""
    told = []
    while place < len(rows) and rows[place].startswith("# "):
        told.append(rows[place][2:])
        place += 1
    return "\n".join(told)


class ReadmeTest(unittest.TestCase):
    def test_what_comes_of_its_rows(self):
        names, found = {}, 0
        for block in re.findall(r"```python\n(.*?)```", README.read_text(encoding="utf-8"), re.DOTALL):
            for node in ast.parse(block).body:
                code, told = ast.get_source_segment(block, node), told_behind(block.split("\n"), node.end_lineno)
                if told:
                    self.assertEqual(outcome(code, names), told, code)
                    found += 1
                else:
                    exec(code, names)
        self.assertGreater(found, 25)
