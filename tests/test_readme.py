"""What README.md shows of the calls is what they answer."""

import ast
import pathlib
import re
import unittest

from strandforms import crossings

README = pathlib.Path(__file__).resolve().parent.parent / "README.md"
CALLS = ("places", "sum_of", "between", "form", "same", "write")


class Examples(unittest.TestCase):
    def test_each_example(self):
        shown = re.findall(r"^(\w+)(\(.*\)) +# (\[.*\])$", README.read_text(encoding="utf-8"), re.MULTILINE)
        for name, arguments, answer in shown:
            given = ast.literal_eval(arguments)
            self.assertEqual(getattr(crossings, name)(*given), ast.literal_eval(answer), name + arguments)
        self.assertEqual({name for name, arguments, answer in shown}, set(CALLS))


if __name__ == "__main__":
    unittest.main()
