import doctest
import os
import unittest

ROOT = os.path.dirname(os.path.dirname(os.path.abspath(__file__)))


class ReadmeTest(unittest.TestCase):
    def test_its_examples(self):
        done = doctest.testfile(os.path.join(ROOT, "README.md"), module_relative=False)
        self.assertEqual((done.failed, done.attempted > 5), (0, True))


if __name__ == "__main__":
    unittest.main()
