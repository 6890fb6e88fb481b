"""The README's example gives what it says."""

import doctest
import os
import unittest


class ReadmeTests(unittest.TestCase):
    def test_examples(self):
        here = os.path.dirname(os.path.dirname(os.path.abspath(__file__)))
        failed, tried = doctest.testfile(os.path.join(here, "README.md"), module_relative=False)
        self.assertEqual(failed, 0)
        self.assertGreater(tried, 0)
