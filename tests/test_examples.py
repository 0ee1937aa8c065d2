"""Each example of the document gives what stands there: [2], and those of the whole interface.

examples.txt has them all, in their order; where the document itself is at hand, its examples are run, too.
"""

import ast
import os
import re
import unittest

from refpack import errors

HERE = os.path.dirname(os.path.abspath(__file__))
EXAMPLES = os.path.join(HERE, "examples.txt")
DOCUMENT = os.path.join(os.path.dirname(os.path.dirname(HERE)), "shared", "DOC.md")


def read(path):
    with open(path, encoding="utf-8") as text:
        return text.read()


def examples_of(text):
    """The pairs of what is passed and of the rows that are expected."""
    found = []
    for row in text.split("\n"):
        if row.startswith(">>> "):
            found.append((row[4:], []))
        elif row:
            found[-1][1].append(row)
    return found


def examples_of_document():
    blocks = re.findall(r"```\n(>>> .*?)```", read(DOCUMENT), re.DOTALL)
    return examples_of("\n".join(blocks))


def raised(fault):
    """The row that stands in the document where this error is raised."""
    attributes = ", ".join(f"{name}={value!r}" for name, value in sorted(vars(fault).items()))
    return f"raises {type(fault).__name__}" + (f"({attributes})" if attributes else "")


def given(source, names):
    """The rows that running the source with these names gives; the names that it binds are added."""
    tree = ast.parse(source)
    if not isinstance(tree.body[0], ast.Expr):
        exec(source, names)
        return []
    try:
        value = eval(source, names)
    except errors.PackError as fault:
        return [raised(fault)]
    return [] if value is None else [repr(value)]


class ExampleTests(unittest.TestCase):

    def check(self, examples):
        names = {}
        for source, expected in examples:
            self.assertEqual(given(source, names), expected, source)

    def test_rows_for_errors(self):
        names = {"errors": errors}
        self.assertEqual(given("1 + 1", names), ["2"])
        exec("def fails(fault):\n    raise fault", names)
        self.assertEqual(given("fails(errors.BadFile(3, 'end'))", names), ["raises BadFile(place=3, reason='end')"])
        self.assertEqual(given("fails(errors.CircularReferences('x'))", names), ["raises CircularReferences"])

    def test_all_examples(self):
        examples = examples_of(read(EXAMPLES))
        self.assertEqual(len(examples), read(EXAMPLES).count(">>> "))
        self.assertGreater(len(examples), 200)
        self.check(examples)

    @unittest.skipUnless(os.path.exists(DOCUMENT), "the document is not at hand")
    def test_the_document(self):
        self.check(examples_of_document())


if __name__ == "__main__":
    unittest.main()
