"""The examples of the document, as examples.md tells them: each value, and each error."""

import importlib
import os
import unittest

MODULES = ("errors", "checks", "papers", "rests", "forms", "claims", "claim_texts", "plain", "marks", "layouts", "rows",
           "struck", "pieces", "counted", "meaning", "verdicts", "questions", "check_verdicts", "duels",
           "moves", "books", "check_books", "rules", "programs",
           "runs", "wants", "check_programs", "pictures", "desk")


def names_of_all():
    """All names of the modules: the examples leave imports out."""
    names = {}
    for module in MODULES:
        loaded = importlib.import_module("claimduel." + module)
        names.update({name: value for name, value in vars(loaded).items()
                      if getattr(value, "__module__", None) == loaded.__name__})
    return names


def examples():
    """The pairs of a line that is run and the line that tells its answer, or None."""
    path = os.path.join(os.path.dirname(os.path.abspath(__file__)), "examples.md")
    with open(path, encoding="utf-8") as file:
        lines = file.read().split("\n")
    rows = []
    for line in lines:
        if line.startswith(">>> "):
            rows.append([line[4:], None])
        elif rows and rows[-1][1] is None and line and not line.startswith(("```", "#")):
            rows[-1][1] = line
    return rows


class ExamplesTest(unittest.TestCase):
    def answer(self, line, names):
        try:
            value = eval(line, names)
        except names["DuelError"] as error:
            return (type(error), vars(error))
        return repr(value)

    def expected(self, line, names):
        if not line.startswith("raises "):
            return line
        error = eval(line[len("raises "):], names)
        error = error() if isinstance(error, type) else error
        return (type(error), vars(error))

    def test_all(self):
        names = names_of_all()
        rows = examples()
        self.assertGreater(len(rows), 40)
        for line, told in rows:
            with self.subTest(line):
                if told is None:
                    exec(line, names)
                else:
                    self.assertEqual(self.answer(line, names), self.expected(told, names))


if __name__ == "__main__":
    unittest.main()
