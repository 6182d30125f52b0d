import doctest
import unittest
from pathlib import Path

README = Path(__file__).resolve().parent.parent / "README.md"


class Readme(unittest.TestCase):
    def test_its_examples_hold(self):
        held = doctest.testfile(str(README), module_relative=False)
        self.assertEqual((held.failed, held.attempted), (0, 3))


if __name__ == "__main__":
    unittest.main()
