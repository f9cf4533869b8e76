"""README.md: what it shows is so."""

import doctest
import pathlib
import unittest

README = pathlib.Path(__file__).resolve().parent.parent / "README.md"


class ReadmeTest(unittest.TestCase):
    def test_examples(self):
        found = doctest.DocTestParser().get_doctest(README.read_text(), {}, "README.md", str(README), 0)
        self.assertTrue(found.examples)
        self.assertEqual(doctest.DocTestRunner(verbose=False).run(found).failed, 0)


if __name__ == "__main__":
    unittest.main()
