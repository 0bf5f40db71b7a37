"""The examples of README.md do what they say."""

import doctest
import pathlib
import unittest


class Readme(unittest.TestCase):
    def test_examples(self):
        text = (pathlib.Path(__file__).parent.parent / "README.md").read_text()
        examples = doctest.DocTestParser().get_doctest(text.replace("```", ""), {}, "README.md", "README.md", 0)
        self.assertTrue(examples.examples)
        self.assertEqual(doctest.DocTestRunner().run(examples).failed, 0)


if __name__ == "__main__":
    unittest.main()
