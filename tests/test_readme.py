"""What README.md shows is what the program tells."""

import doctest
import os
import unittest

TOP = os.path.dirname(os.path.dirname(os.path.abspath(__file__)))


class Readme(unittest.TestCase):
    def test_all(self):
        failed, shown = doctest.testfile(os.path.join(TOP, "README.md"), module_relative=False)
        self.assertEqual(failed, 0)
        self.assertGreater(shown, 10)


if __name__ == "__main__":
    unittest.main()
