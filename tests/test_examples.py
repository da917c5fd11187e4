"""The examples of the document and of README.md."""

import doctest
import os
import unittest

HERE = os.path.dirname(os.path.abspath(__file__))


class Examples(unittest.TestCase):
    def check_file(self, path, fewest):
        found = doctest.testfile(path, module_relative=False)
        self.assertGreaterEqual(found.attempted, fewest)
        self.assertEqual(found.failed, 0)

    def test_the_document(self):
        self.check_file(os.path.join(HERE, "examples.txt"), 47)

    def test_the_readme(self):
        self.check_file(os.path.join(HERE, "..", "README.md"), 47)


if __name__ == "__main__":
    unittest.main()
