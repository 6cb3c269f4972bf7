"""The examples of the document, as they stand in it (copied into examples.txt)."""

import ast
import doctest
import os
import unittest

from lastpasted import (
    anew, bills, board, cases, column, desk, errors, hands, latest, looks, lost, pairs, shown, stacks, sure, texts,
    wrong,
)
from tests.support import FIELDS, Case

HERE = os.path.dirname(os.path.abspath(__file__))
EXAMPLES = os.path.join(HERE, "examples.txt")
README = os.path.join(HERE, "..", "README.md")
DOCUMENT = os.path.join(HERE, "..", "..", "shared", "DOC.md")


def read(path):
    with open(path, encoding="utf-8") as stream:
        return stream.read()


def examples():
    """The pairs of an example's line and of what the document says it gives, None if it says nothing."""
    lines = [line for line in read(EXAMPLES).split("\n") if line]
    for line, after in zip(lines, lines[1:] + [">>> "]):
        if line.startswith(">>> "):
            yield line[4:], None if after.startswith(">>> ") else after


class Examples(Case):
    def run_example(self, line, wanted, known):
        if wanted is None:
            exec(line, known)
        elif wanted.startswith("raises "):
            call = ast.parse(wanted[len("raises "):], mode="eval").body
            fields = {part.arg: ast.literal_eval(part.value) for part in call.keywords}
            self.refused(call.func.id, fields, eval, line, known)
        else:
            self.check(eval(line, known), ast.literal_eval(wanted))

    def test_examples(self):
        known = {}
        for module in (errors, bills, cases, latest, sure, pairs, stacks, looks, lost, anew, shown, column, hands,
                       wrong,
                       board, texts, desk):
            known.update(vars(module))
        ran = 0
        for line, wanted in examples():
            with self.subTest(line=line):
                self.run_example(line, wanted, known)
            ran += 1
        self.assertEqual(ran, 122)

    def test_examples_are_the_document_s(self):
        if not os.path.exists(DOCUMENT):
            self.skipTest("the document is not beside this checkout")
        stand = read(DOCUMENT).split("\n")
        for line in read(EXAMPLES).split("\n"):
            if line:
                self.assertIn("    " + line, stand)

    def test_readme(self):
        found = doctest.testfile(README, module_relative=False)
        self.assertEqual(found.failed, 0)
        self.assertGreater(found.attempted, 5)

    def test_every_error_is_told_of(self):
        defined = [name for name, value in vars(errors).items() if isinstance(value, type)]
        self.assertEqual(sorted(defined), sorted(FIELDS))


if __name__ == "__main__":
    unittest.main()
