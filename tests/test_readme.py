"""The example of README.md."""

import doctest
import pathlib
import unittest

from keptbook.book import answers

README = pathlib.Path(__file__).resolve().parent.parent / "README.md"


class ReadmeTest(unittest.TestCase):
    def test_example(self):
        example = doctest.DocTestParser().get_doctest(
            README.read_text(encoding="utf-8"), {"answers": answers}, "README.md", str(README), 0)
        result = doctest.DocTestRunner(verbose=False).run(example)
        self.assertEqual((result.failed, result.attempted), (0, 5))


if __name__ == "__main__":
    unittest.main()
