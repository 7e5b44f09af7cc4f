"""The examples of README.md, among them that of section 1."""

import doctest
import os
import unittest

ROOT = os.path.dirname(os.path.dirname(os.path.abspath(__file__)))


class ReadmeTest(unittest.TestCase):

    def test_examples(self):
        told = doctest.testfile(os.path.join(ROOT, "README.md"), module_relative=False)
        self.assertGreater(told.attempted, 30)
        self.assertEqual(told.failed, 0)


if __name__ == "__main__":
    unittest.main()
