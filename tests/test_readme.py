"""The examples of README.md do what is written there."""

import doctest
import pathlib
import unittest

README = pathlib.Path(__file__).resolve().parent.parent / "README.md"


class Readme(unittest.TestCase):
    def test_the_examples(self):
        # Without the fences, which doctest would take for a part of what is expected.
        text = README.read_text(encoding="ascii").replace("```", "")
        examples = doctest.DocTestParser().get_doctest(text, {}, "README.md", str(README), 0)
        self.assertGreater(len(examples.examples), 10)
        result = doctest.DocTestRunner(verbose=False).run(examples)
        self.assertEqual(result.failed, 0)


if __name__ == "__main__":
    unittest.main()
