"""The examples of README.md."""

import doctest
import pathlib
import unittest

README = pathlib.Path(__file__).parent.parent / "README.md"


class Readme(unittest.TestCase):
    def test_examples(self):
        text = README.read_text(encoding="utf-8")
        # The closing marks would count as what an example returns.
        test = doctest.DocTestParser().get_doctest(text.replace("```", ""), {}, "README.md", None, 0)
        self.assertGreater(len(test.examples), 5)
        result = doctest.DocTestRunner(verbose=False).run(test)
        self.assertEqual(result.failed, 0)


if __name__ == "__main__":
    unittest.main()
