"""That the example in README.md tells the truth."""

import pathlib
import re
import unittest

README = pathlib.Path(__file__).resolve().parent.parent / "README.md"


class Example(unittest.TestCase):
    def test_the_lines_with_a_result(self):
        code = re.search(r"```python\n(.*?)```", README.read_text(encoding="utf-8"), re.DOTALL).group(1)
        names, checked = {}, 0
        exec(code, names)
        for line in code.splitlines():
            call, told = line.partition("  #")[::2]
            if told:
                due = re.match(r"\s*(True|False|\[.*\])", told).group(1)
                self.assertEqual(eval(call, names), eval(due), line)
                checked += 1
        self.assertEqual(checked, 3)


if __name__ == "__main__":
    unittest.main()
