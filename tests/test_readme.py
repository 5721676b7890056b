import doctest
import os
import unittest

README = os.path.join(os.path.dirname(os.path.dirname(os.path.abspath(__file__))), "README.md")


class Examples(unittest.TestCase):
    def test_the_examples_of_the_readme(self):
        failures, tried = doctest.testfile(README, module_relative=False)
        self.assertEqual(failures, 0)
        self.assertGreater(tried, 30)


if __name__ == "__main__":
    unittest.main()
