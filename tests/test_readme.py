"""The code in README.md does what it says there."""

import contextlib
import io
import re
import unittest
from pathlib import Path

README = Path(__file__).resolve().parent.parent / "README.md"


class ReadmeTest(unittest.TestCase):
    def test_the_code_runs(self):
        blocks = re.findall(r"```python\n(.*?)```", README.read_text(), re.DOTALL)
        self.assertEqual(len(blocks), 2)
        with contextlib.redirect_stdout(io.StringIO()) as shown:
            exec("\n".join(blocks), {})
        self.assertTrue(shown.getvalue().startswith("3 "))
