"""What README.md shows is what the program tells."""

import re
import unittest
from pathlib import Path

README = Path(__file__).resolve().parent.parent / "README.md"


class Readme(unittest.TestCase):
    def test_each_example(self):
        names = {}
        asked = 0
        for block in re.findall("```python\n(.*?)```", README.read_text(encoding="utf-8"), re.DOTALL):
            for line in block.splitlines():
                code, _, wanted = line.partition(" # ")
                if wanted and not re.match("[a-z]+ = ", code):
                    told = repr(eval(code, names))
                    # Behind a colon the README may say more.
                    self.assertIn(told, (wanted.strip(), wanted.strip()[:len(told)]), code)
                    asked += 1
                else:
                    exec(code, names)
        self.assertGreater(asked, 50)
