"""The examples of README.md answer as it says."""

import pathlib
import re
import unittest

README = pathlib.Path(__file__).parent.parent / "README.md"


class Examples(unittest.TestCase):
    def test_answers(self):
        code = re.search("```python\n(.*?)```", README.read_text(encoding="utf-8"), re.DOTALL).group(1)
        names = {}
        told = 0
        for row in code.splitlines():
            example = re.match(r"(\w+\(.*\)) +# (\[.*?\])", row)
            if example:
                told += 1
                self.assertEqual(eval(example.group(2)), eval(example.group(1), names), row)
            else:
                exec(row, names)
        self.assertGreater(told, 4)


if __name__ == "__main__":
    unittest.main()
