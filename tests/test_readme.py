"""The examples of README.md."""

import doctest
import os
import unittest

README = os.path.join(os.path.dirname(os.path.dirname(os.path.abspath(__file__))), "README.md")


class ReadmeTests(unittest.TestCase):

    def test_examples(self):
        # Without the lines that only mark code.
        with open(README, encoding="utf-8") as readme:
            text = readme.read().replace("```", "")
        examples = doctest.DocTestParser().get_doctest(text, {}, "README.md", README, 0)
        self.assertGreater(len(examples.examples), 5)
        report = []
        result = doctest.DocTestRunner(verbose=False).run(examples, out=report.append)
        self.assertEqual(result.failed, 0, "".join(report))


if __name__ == "__main__":
    unittest.main()
