"""[1], [2]: the refusals, and that the package itself binds nothing."""

import subprocess
import sys
import unittest
from pathlib import Path

from midvalue.errors import BadRow, BadSettings, BadStep, NoSensor, VoteError

FOUR = (BadSettings, BadStep, NoSensor, BadRow)
ROOT = Path(__file__).resolve().parent.parent


class Errors(unittest.TestCase):
    def test_vote_error_stands_under_value_error(self):
        self.assertTrue(issubclass(VoteError, ValueError))

    def test_each_stands_under_vote_error(self):
        for one in FOUR:
            self.assertTrue(issubclass(one, VoteError), one)
            self.assertIsNot(one, VoteError)

    def test_none_stands_under_another(self):
        for one in FOUR:
            for other in FOUR:
                if one is not other:
                    self.assertFalse(issubclass(one, other), (one, other))

    def test_names(self):
        self.assertEqual([one.__name__ for one in FOUR], ["BadSettings", "BadStep", "NoSensor", "BadRow"])


class Package(unittest.TestCase):
    def test_init_binds_nothing(self):
        # In a Python of its own: here the test files' imports have bound the modules already.
        code = "import midvalue; print([n for n in vars(midvalue) if not n.startswith('__')])"
        told = subprocess.run([sys.executable, "-c", code], cwd=ROOT, capture_output=True, text=True, check=True)
        self.assertEqual(told.stdout.strip(), "[]")


if __name__ == "__main__":
    unittest.main()
