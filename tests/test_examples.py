"""The examples of README.md, and those of the document's interface."""

import doctest
import pathlib
import unittest

TESTS = pathlib.Path(__file__).parent


class Examples(unittest.TestCase):
    def check(self, path):
        text = path.read_text(encoding="utf-8")
        # The closing marks would count as what an example returns.
        test = doctest.DocTestParser().get_doctest(text.replace("```", ""), {}, path.name, None, 0)
        self.assertGreater(len(test.examples), 5)
        result = doctest.DocTestRunner(verbose=False).run(test)
        self.assertEqual(result.failed, 0)

    def test_of_the_readme(self):
        self.check(TESTS.parent / "README.md")

    def test_of_the_interface(self):
        self.check(TESTS / "interface.md")


if __name__ == "__main__":
    unittest.main()
