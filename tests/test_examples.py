"""The examples of the document, and those of README.md."""

import doctest
import pathlib
import unittest

FOLDER = pathlib.Path(__file__).resolve().parent
FILES = {"examples.txt": 28, "../README.md": 20}


class ExamplesTest(unittest.TestCase):
    def test_examples(self):
        for file, least in FILES.items():
            failed, tried = doctest.testfile(str(FOLDER / file), module_relative=False)
            self.assertEqual(failed, 0, file)
            self.assertGreaterEqual(tried, least, file)


if __name__ == "__main__":
    unittest.main()
