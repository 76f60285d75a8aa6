"""The example in README.md answers what it says behind each line."""

import re
import unittest
from pathlib import Path

README = Path(__file__).resolve().parent.parent / "README.md"


class Readme(unittest.TestCase):
    def test_the_example(self):
        example = re.search(r"```python\n(.*?)\ntry:", README.read_text(encoding="utf-8"), re.DOTALL).group(1)
        names = {}
        told = 0
        for line in example.splitlines():
            code, sign, expected = line.partition("#")
            if not sign:
                exec(line, names)
                continue
            name, equals, asked = code.strip().rpartition(" = ")
            answer = eval(asked, names)
            self.assertEqual(answer, eval(expected.strip()), line)
            names[name] = answer
            told += 1
        self.assertGreater(told, 15)
