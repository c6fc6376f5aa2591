"""The examples of README.md answer what stands beside them."""

import os
import re
import unittest

TOP = os.path.dirname(os.path.dirname(os.path.abspath(__file__)))


class Readme(unittest.TestCase):
    def test_examples(self):
        with open(os.path.join(TOP, "README.md"), encoding="utf-8") as file:
            block = re.search(r"```python\n(.*?)```", file.read(), re.DOTALL).group(1)
        names = {}
        exec(block, names)
        examples = re.findall(r"^(\w+\(.*\)) +# (\[.*\])$", block, re.MULTILINE)
        self.assertEqual(len(examples), block.count("#"))
        for call, answer in examples:
            with self.subTest(call=call):
                self.assertEqual(repr(eval(call, names)), answer)


if __name__ == "__main__":
    unittest.main()
