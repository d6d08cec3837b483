"""The examples of README.md answer what stands behind them."""

import pathlib
import re
import unittest

README = pathlib.Path(__file__).resolve().parent.parent / "README.md"


class Examples(unittest.TestCase):
    def test_examples(self):
        code = re.search(r"```python\n(.*?)```", README.read_text(encoding="utf-8"), re.S).group(1)
        names = {}
        told = 0
        for row in code.split("\n"):
            example = re.match(r"(\w+\(.*\)) +# (\[.*?\])", row)
            if example:
                self.assertEqual(eval(example.group(1), names), eval(example.group(2)), row)
                told += 1
            else:
                exec(row, names)
        self.assertGreater(told, 3)


if __name__ == "__main__":
    unittest.main()
