"""The examples of README.md tell what the program does."""

import doctest
import pathlib
import unittest

README = pathlib.Path(__file__).resolve().parent.parent / "README.md"


class ReadmeTest(unittest.TestCase):

    def test_examples(self):
        # The fences would count as expected output.
        text = README.read_text(encoding="ascii").replace("```", "")
        examples = doctest.DocTestParser().get_doctest(text, {}, "README.md", str(README), 0)
        results = doctest.DocTestRunner().run(examples)
        self.assertGreater(results.attempted, 15)
        self.assertEqual(results.failed, 0)


if __name__ == "__main__":
    unittest.main()
