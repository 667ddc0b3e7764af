"""Every example of the document, to the letter, as tests/examples.txt has them."""

import importlib
import os
import re
import unittest

HERE = os.path.dirname(os.path.abspath(__file__))
DOCUMENT = os.path.join(os.path.dirname(os.path.dirname(HERE)), "shared", "DOC.md")
MODULES = (
    "errors", "base.names", "base.games", "base.gaps", "pay.pays", "pay.sharings", "pay.mixtures", "pay.papers", "pay.verdict",
    "pay.bounds", "more.moves", "more.even", "more.parts", "more.between", "more.fair", "more.built", "desk.desk", "text.formats",
    "text.shell", "more.beaten", "more.plans", "more.poorest",
)


def examples():
    """The pairs (code, lines that are told) of all examples, in their order."""
    with open(os.path.join(HERE, "examples.txt"), encoding="utf-8") as told:
        lines = told.read().split("\n")
    found = []
    for line in lines:
        if line.startswith(">>> "):
            found.append((line[4:], []))
        elif line:
            found[-1][1].append(line)
    return found


class Document(unittest.TestCase):
    def setUp(self):
        self.names = {}
        for place in MODULES:
            module = importlib.import_module("joinmore." + place)
            self.names.update({name: value for name, value in vars(module).items() if not name.startswith("_")})

    def test_examples(self):
        told = examples()
        self.assertEqual(len(told), 63)
        for code, lines in told:
            if not lines:
                exec(code, self.names)
            elif lines[0].startswith("raises "):
                self.hold_raised(code, lines[0][len("raises "):])
            else:
                self.assertEqual(repr(eval(code, self.names)), "\n".join(lines), code)

    def hold_raised(self, code, word):
        with self.assertRaises(Exception) as caught:
            eval(code, self.names)
        error = caught.exception
        if "(" not in word:
            self.assertEqual(error.__class__.__name__, word, code)
            return
        expected = eval(word, self.names)
        self.assertIs(error.__class__, expected.__class__, code)
        self.assertEqual(vars(error), vars(expected), code)

    def test_all_examples_are_told(self):
        if not os.path.exists(DOCUMENT):
            self.skipTest("the document is not here")
        with open(DOCUMENT, encoding="utf-8") as told:
            blocks = re.findall(r"```\n(.*?)```", told.read(), re.S)
        with open(os.path.join(HERE, "examples.txt"), encoding="utf-8") as told:
            self.assertEqual(told.read(), "\n".join(blocks))


if __name__ == "__main__":
    unittest.main()
