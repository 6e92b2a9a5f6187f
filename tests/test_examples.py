"""Every example of the document, which `examples.txt` keeps chapter by chapter, and those of README.md."""

import doctest
import pathlib
import re
import unittest

EXAMPLES = 127
HERE = pathlib.Path(__file__).resolve().parent
README = HERE.parent / "README.md"
CHAPTERS = re.split(r"^Chapter (\d+)$", (HERE / "examples.txt").read_text(), flags=re.MULTILINE)


class ExamplesTest(unittest.TestCase):
    def check(self, text, name):
        test = doctest.DocTestParser().get_doctest(text, {}, name, None, 0)
        told = []
        results = doctest.DocTestRunner().run(test, out=told.append)
        self.assertGreater(results.attempted, 0)
        self.assertEqual(0, results.failed, "".join(told))
        return results.attempted

    def test_chapters(self):
        many = 0
        self.assertEqual(["1"] + [str(number) for number in range(3, 19)], CHAPTERS[1::2])
        for chapter, text in zip(CHAPTERS[1::2], CHAPTERS[2::2]):
            with self.subTest(chapter=chapter):
                many += self.check(text, "chapter " + chapter)
        self.assertEqual(EXAMPLES, many)

    def test_readme(self):
        self.check(README.read_text(), "README.md")


if __name__ == "__main__":
    unittest.main()
