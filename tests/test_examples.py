"""All examples of the interface, one behind another, with just the values and errors that they tell."""

import importlib
import os
import unittest

from oneflip import errors
from tests.tools import Case, error_of

FILE = os.path.join(os.path.dirname(__file__), "examples.txt")


def _sections():
    """Pairs of a module and its pairs of an example and what comes of it, None for an assignment."""
    with open(FILE, encoding="utf-8") as file:
        rows = [row.rstrip("\n") for row in file if row.strip()]
    sections = []
    for at, row in enumerate(rows):
        behind = rows[at + 1] if at + 1 < len(rows) else ">>> "
        if row.startswith("# "):
            sections.append((row[2:], []))
        elif row.startswith(">>> "):
            is_told = not behind.startswith((">>> ", "# "))
            sections[-1][1].append((row[4:], behind if is_told else None))
    return sections


class Examples(Case):
    def test_examples(self):
        names = {}
        told = 0
        for file, examples in _sections():
            module = importlib.import_module(file[:-len(".py")].replace("/", "."))
            names.update({name: value for name, value in vars(module).items() if not name.startswith("_")})
            for code, wanted in examples:
                told += 1
                with self.subTest(file=file, code=code):
                    self._holds(code, wanted, names)
        self.assertEqual(told, 160)

    def _holds(self, code, wanted, names):
        if wanted is None:
            exec(code, names)
        elif wanted.startswith("raises ") and wanted.endswith(")"):
            self.fails(eval(wanted[len("raises "):], vars(errors)), eval, code, names)
        elif wanted.startswith("raises "):
            # The example tells no fields: they are told in the tests of the module.
            self.assertIs(type(error_of(eval, code, names)), vars(errors)[wanted[len("raises "):]])
        else:
            self.same(eval(code, names), eval(wanted, {}))


if __name__ == "__main__":
    unittest.main()
