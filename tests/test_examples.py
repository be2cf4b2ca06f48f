"""The examples of the README tell what they say."""

import doctest
import pathlib
import unittest


class TestExamples(unittest.TestCase):
    def test_readme(self):
        path = pathlib.Path(__file__).resolve().parent.parent / "README.md"
        # The fences of the text are no output.
        text = path.read_text(encoding="utf-8").replace("```", "")
        test = doctest.DocTestParser().get_doctest(text, {}, "README.md", str(path), 0)
        self.assertGreater(len(test.examples), 5)
        self.assertEqual(doctest.DocTestRunner(verbose=False).run(test).failed, 0)


if __name__ == "__main__":
    unittest.main()
