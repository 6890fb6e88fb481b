"""[1], [13]: every function and method of the document by its name and parameters, and every example of it.

doc_names.txt has the names of the interface, each with its file and its
parameters; doc_examples.txt has the examples under the headings that they
stand under. Both are as the document has them; its own examples are run, too,
where it stands beside the project.
"""

import importlib
import inspect
import os
import unittest

from assentwhole import errors
from tests.samples import same

HERE = os.path.dirname(os.path.abspath(__file__))
DOCUMENT = os.path.join(os.path.dirname(os.path.dirname(HERE)), "shared", "DOC.md")


def lines_of(path):
    with open(path, encoding="utf-8") as file:
        return file.read().split("\n")


def told_names():
    """For each function or method (file, its words, its parameters)."""
    for line in lines_of(os.path.join(HERE, "doc_names.txt")):
        if line:
            path, _, told = line.rstrip(")").partition("(")
            file, *words = path.split(".")
            yield file, words, tuple(told.split(", ")) if told else ()


def told_examples(lines):
    """The examples: pairs of what is done, and what comes of it, or None."""
    found = []
    for line in lines:
        if line.startswith(">>> "):
            found.append((line[4:], None))
        elif found and found[-1][1] is None and line and not line.startswith("# "):
            found[-1] = (found[-1][0], line)
    return found


def document_lines():
    """The lines of the document that its examples consist of; none without it."""
    if not os.path.exists(DOCUMENT):
        return []
    return [line[4:] for line in lines_of(DOCUMENT) if line.startswith("    ")]


class NameTests(unittest.TestCase):
    def test_each_stands_in_its_file_with_its_parameters(self):
        seen = 0
        for file, words, parameters in told_names():
            module = importlib.import_module("assentwhole." + file)
            found = getattr(module, words[0])
            self.assertEqual(found.__module__, "assentwhole." + file)
            if len(words) > 1:
                self.assertIn(words[1], vars(found))
                found = vars(found)[words[1]]
            told = list(inspect.signature(found).parameters.values())
            if len(words) > 1:
                self.assertEqual(told.pop(0).name, "self")
            self.assertEqual(tuple(part.name for part in told), parameters, (file, words))
            for part in told:
                self.assertIs(part.default, part.empty)
                self.assertEqual(part.kind, part.POSITIONAL_OR_KEYWORD)
            seen += 1
        self.assertEqual(seen, 146)

    def test_errors(self):
        families = {
            "DataError": {
                "BadLots": ("at", "word"), "BadCounts": ("at",), "BadCrowd": ("at",), "BadTrust": ("at", "word"),
                "BadStair": ("at",), "BadPact": ("at", "word"), "BadRoll": ("at",), "BadScheme": ("at", "word"),
            },
            "CallError": {"NotUsable": ("word",), "NotFor": ("word",)},
            "RunError": {"BadMove": ("at", "word")},
            "TextError": {"BadText": ("line", "word")},
            "ShelfError": {"NoSuch": ("word",), "Taken": ("word",), "NothingToUndo": ()},
        }
        self.assertEqual(errors.AssentError.__bases__, (ValueError,))
        for family, members in families.items():
            self.assertEqual(getattr(errors, family).__bases__, (errors.AssentError,))
            for name, fields in members.items():
                kind = getattr(errors, name)
                self.assertEqual(kind.__bases__, (getattr(errors, family),))
                values = [[name, at] for at, _ in enumerate(fields)]
                for error in (kind(*values), kind(**dict(zip(fields, values)))):
                    self.assertEqual(tuple(vars(error)), fields)
                    for field, value in zip(fields, values):
                        self.assertIs(getattr(error, field), value)
                for many in range(len(fields)):
                    self.assertRaises(TypeError, kind, *values[:many])
                self.assertRaises(TypeError, kind, *values, 1)


class ExampleTests(unittest.TestCase):
    def names(self):
        """All that examples may leave the imports of out."""
        found = {}
        for file, words, _ in told_names():
            found[words[0]] = getattr(importlib.import_module("assentwhole." + file), words[0])
        return found

    def played(self, examples):
        here = self.names()
        for told, wanted in examples:
            if wanted is None:
                exec(told, here)
            elif wanted.startswith("raises "):
                error = eval(wanted[len("raises "):], dict(vars(errors)))
                with self.assertRaises(type(error), msg=told) as caught:
                    eval(told, here)
                self.assertIs(type(caught.exception), type(error), told)
                self.assertTrue(same(sorted(vars(caught.exception).items()), sorted(vars(error).items())), told)
            else:
                found = eval(told, here)
                self.assertEqual(repr(found), wanted, told)
                self.assertTrue(same(found, eval(wanted)), told)

    def test_examples(self):
        examples = told_examples(lines_of(os.path.join(HERE, "doc_examples.txt")))
        self.assertEqual(len(examples), 183)
        self.assertEqual(len([wanted for _, wanted in examples if wanted is not None]), 115)
        self.played(examples)

    def test_examples_of_the_document_beside(self):
        self.played(told_examples(document_lines()))


if __name__ == "__main__":
    unittest.main()
