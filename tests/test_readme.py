"""The examples in README.md are right."""

import doctest
import pathlib
import unittest

README = pathlib.Path(__file__).resolve().parent.parent / "README.md"


class ReadmeTest(unittest.TestCase):
    def test_examples(self):
        # A fence ends the output of an example.
        text = README.read_text(encoding="ascii").replace("```", "")
        test = doctest.DocTestParser().get_doctest(text, {}, "README.md", str(README), 0)
        self.assertGreater(len(test.examples), 20)
        found = doctest.DocTestRunner(verbose=False).run(test)
        self.assertEqual(found.failed, 0)


if __name__ == "__main__":
    unittest.main()
