"""The examples of README.md hold."""

import doctest
import os
import unittest

PLACE = os.path.join(os.path.dirname(os.path.dirname(os.path.abspath(__file__))), "README.md")


class Readme(unittest.TestCase):
    def test_examples(self):
        failed, tried = doctest.testfile(PLACE, module_relative=False)
        self.assertEqual(failed, 0)
        self.assertGreater(tried, 10)
