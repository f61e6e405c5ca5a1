"""Tests that the examples in README.md hold."""

import doctest
import unittest


class TestReadme(unittest.TestCase):

    def test_the_examples(self):
        found = doctest.testfile("../README.md", encoding="utf-8")
        self.assertEqual(found.failed, 0)
        self.assertGreater(found.attempted, 10)


if __name__ == "__main__":
    unittest.main()
