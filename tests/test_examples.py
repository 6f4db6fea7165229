"""The examples of DOC.md, a file for each module of the interface."""

import doctest
import importlib
import os
import unittest

HERE = os.path.dirname(os.path.abspath(__file__))
FOLDER = os.path.join(HERE, "examples")


def names_for(module):
    """What an example may use: what examples of other modules use, and all of the module that it stands under."""
    names = {}
    for one in ("texts", "runs", "flatforms", "carried", "flatcode", "restuses", "bytrees", "holders", "library", module):
        names.update(vars(importlib.import_module("nearanswer." + one)))
    return names


class ExamplesTest(unittest.TestCase):

    def check(self, module):
        with open(os.path.join(FOLDER, module + ".txt"), encoding="utf-8") as file:
            text = file.read()
        examples = doctest.DocTestParser().get_doctest(text, names_for(module), module, module, 0)
        self.assertGreater(len(examples.examples), 3)
        told = []
        result = doctest.DocTestRunner(verbose=False).run(examples, out=told.append)
        self.assertEqual(result.failed, 0, "".join(told))


def test_for(module):
    return lambda self: self.check(module)


for name in sorted(os.listdir(FOLDER)):
    setattr(ExamplesTest, "test_" + name[:-4], test_for(name[:-4]))
