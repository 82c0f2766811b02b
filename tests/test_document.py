"""All examples of the document come out as it says."""

import doctest
import re
import unittest
from pathlib import Path

EXAMPLES = Path(__file__).resolve().parent / "document_examples.txt"


class DocumentTest(unittest.TestCase):

    def test_examples(self):
        failed, tried = doctest.testfile(str(EXAMPLES), module_relative=False)
        self.assertGreater(tried, 50)
        self.assertEqual(failed, 0)

    def test_which_modules_they_show(self):
        used = set(re.findall(r"from plateways\.(\w+) import", EXAMPLES.read_text(encoding="utf-8")))
        self.assertEqual(used, {"kitchens", "works", "cooking", "ways", "reasons", "together", "meeting", "reaching", "papers", "washing",
                                "fencing", "clean", "logs", "books", "stories", "recipes", "desk"})


if __name__ == "__main__":
    unittest.main()
