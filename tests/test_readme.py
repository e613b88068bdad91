import doctest
import os
import unittest

README = os.path.join(os.path.dirname(os.path.dirname(os.path.abspath(__file__))), "README.md")


class ReadmeTest(unittest.TestCase):
    def test_examples(self):
        results = doctest.testfile(README, module_relative=False)
        self.assertGreater(results.attempted, 4)
        self.assertEqual(results.failed, 0)


if __name__ == "__main__":
    unittest.main()
