"""That the examples in README.md tell the truth."""

import pathlib
import re
import unittest

README = pathlib.Path(__file__).resolve().parent.parent / "README.md"


class Examples(unittest.TestCase):
    def test_the_lines_with_a_result(self):
        # Each example goes on with the names of those before it.
        names, checked = {}, 0
        for code in re.findall(r"```python\n(.*?)```", README.read_text(encoding="utf-8"), re.DOTALL):
            before = ""
            for line in code.splitlines():
                call, told = line.partition("  #")[::2]
                if not told:
                    before += line + "\n"
                    continue
                exec(before, names)
                before = ""
                due = re.match(r"""\s*(True|False|-?\d+|".*"|\[.*\]|\(.*\))""", told).group(1)
                self.assertEqual(eval(call, names), eval(due), line)
                checked += 1
        self.assertEqual(checked, 17)


if __name__ == "__main__":
    unittest.main()
