"""The examples of README.md, and of the document where it stands beside this folder."""

import doctest
import pathlib
import unittest

README = pathlib.Path(__file__).resolve().parent.parent / "README.md"
DOCUMENT = README.parent.parent / "shared" / "DOC.md"


class TestExamples(unittest.TestCase):
    def test_the_examples_of_the_readme(self):
        told = doctest.testfile(str(README), module_relative=False)
        self.assertEqual(told.failed, 0)
        self.assertGreater(told.attempted, 5)

    @unittest.skipUnless(DOCUMENT.is_file(), "no document")
    def test_the_examples_of_the_document(self):
        # The fences end no example by themselves.
        text = DOCUMENT.read_text().replace("```", "")
        test = doctest.DocTestParser().get_doctest(text, {}, DOCUMENT.name, str(DOCUMENT), 0)
        told = doctest.DocTestRunner().run(test)
        self.assertEqual(told.failed, 0)
        self.assertGreater(told.attempted, 40)


if __name__ == "__main__":
    unittest.main()
