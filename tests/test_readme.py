"""The examples of README.md answer what stands behind them."""

import re
import unittest
from pathlib import Path

README = Path(__file__).resolve().parent.parent / "README.md"


class ReadmeTest(unittest.TestCase):
    def test_examples(self):
        code = re.search(r"```python\n(.*?)```", README.read_text("utf-8"), re.DOTALL).group(1)
        names = {}
        exec(code, names)
        examples = re.findall(r"^(\w+\(.*\)) +# (\[.*?\])", code, re.MULTILINE)
        self.assertGreater(len(examples), 0)
        for call, wanted in examples:
            with self.subTest(call=call):
                self.assertEqual(wanted, str(eval(call, names)))


if __name__ == "__main__":
    unittest.main()
