"""The examples of README.md, and its table of the modules."""

import doctest
import re
import unittest
from pathlib import Path

from test_interface import CLASSES, CONSTANTS, FUNCTIONS

ROOT = Path(__file__).resolve().parent.parent
TEXT = (ROOT / "README.md").read_text(encoding="utf-8")


class ReadmeTest(unittest.TestCase):
    def test_examples(self):
        # The examples of all blocks are one session.
        blocks = re.findall(r"^```\n(>>> .*?)^```$", TEXT, re.MULTILINE | re.DOTALL)
        self.assertEqual("\n".join(blocks).count(">>> "), TEXT.count(">>> "))
        session = doctest.DocTestParser().get_doctest("\n".join(blocks), {}, "README.md", "README.md", 0)
        told = []
        doctest.DocTestRunner(verbose=False).run(session, out=told.append)
        self.assertEqual("".join(told), "")

    def test_table(self):
        for name in {**CLASSES, **FUNCTIONS, **CONSTANTS}:
            row = re.search(rf"^[|] `doppelganger[.]{name}` [|] (.*) [|]$", TEXT, re.MULTILINE)
            self.assertIsNotNone(row, name)
            for each in FUNCTIONS.get(name, {}):
                self.assertIn(f"`{each}`", row[1])

    def test_each_file_is_named(self):
        for path in (ROOT / "doppelganger").glob("[a-z]*.py"):
            self.assertIn(f"`doppelganger.{path.stem}`", TEXT)


if __name__ == "__main__":
    unittest.main()
