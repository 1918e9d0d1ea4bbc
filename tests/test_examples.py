"""All examples of DOC.md, as they stand there, in one run from the first to the last.

The file `examples.txt` has them; where DOC.md is beside the project, it is held to it.
"""

import importlib
import os
import re
import unittest

from test_interface import CLASSES, FUNCTIONS

HERE = os.path.dirname(os.path.abspath(__file__))
DOC = os.path.join(HERE, "..", "..", "shared", "DOC.md")


def all_names():
    """All names of the interface, as imports bring them."""
    names = {}
    for module, told in FUNCTIONS.items():
        for name in re.findall(r"(\w+)\(", told):
            names[name] = getattr(importlib.import_module(module), name)
    for module, name in CLASSES:
        names[name] = getattr(importlib.import_module(module), name)
    return names


def examples(text):
    """The pairs of a command and of the line that it shows, or None."""
    found = []
    for line in text.split("\n"):
        if line.startswith(">>> "):
            found.append((line[4:], None))
        elif line:
            found[-1] = (found[-1][0], line)
    return found


class Examples(unittest.TestCase):
    def test_all_examples(self):
        with open(os.path.join(HERE, "examples.txt"), encoding="ascii") as held:
            commands = examples(held.read())
        self.assertEqual(len(commands), 92)
        names = all_names()
        shown = 0
        for command, line in commands:
            if line is None:
                exec(command, names)
            elif line.startswith("raises "):
                with self.assertRaises(Exception) as found:
                    eval(command, names)
                self.assertEqual(type(found.exception).__name__, line[7:], command)
            else:
                result, expected = eval(command, names), eval(line, {})
                self.assertEqual(result, expected, command)
                self.assertEqual(repr(result), repr(expected), command)
                shown += 1
        self.assertEqual(shown, 56)

    @unittest.skipUnless(os.path.exists(DOC), "DOC.md is not here")
    def test_they_stand_so_in_the_document(self):
        with open(DOC, encoding="utf-8") as held:
            told = "".join(re.findall(r"```\n(>>> .*?)```", held.read(), re.S))
        with open(os.path.join(HERE, "examples.txt"), encoding="ascii") as held:
            self.assertEqual(held.read(), told)


if __name__ == "__main__":
    unittest.main()
