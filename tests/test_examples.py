"""The examples of the document, as they are printed there: tests/examples has those of each section."""

import ast
import os
import unittest

FOLDER = os.path.join(os.path.dirname(os.path.abspath(__file__)), "examples")
PRINTED = {3: 5, 4: 3, 5: 5, 6: 5, 7: 4, 8: 7, 9: 7, 10: 4, 11: 6, 12: 7, 13: 5, 14: 3, 15: 4, 16: 5, 17: 4}


def block(section):
    with open(os.path.join(FOLDER, f"section_{section:02d}.txt"), encoding="ascii") as file:
        return file.read()


def told(text):
    """Tuples of what a line of a block gives, and what the document prints below it."""
    names, given = {}, None
    for line in text.splitlines():
        if line.startswith("# "):
            yield repr(given), line[2:]
        elif isinstance(ast.parse(line).body[0], ast.Expr):
            given = eval(line, names)
        else:
            exec(line, names)


class TheExamples(unittest.TestCase):
    def test_each_section(self):
        for section, many in PRINTED.items():
            pairs = list(told(block(section)))
            self.assertEqual(len(pairs), many)
            for given, printed in pairs:
                self.assertEqual(given, printed, section)
