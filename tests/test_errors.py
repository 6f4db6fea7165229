"""[92] errors."""

import unittest

from nearanswer import errors

WITH_MESSAGE = """InvalidTree InvalidProgram InvalidValue InvalidPath InvalidName InvalidNumber InvalidBook
InvalidKinding InvalidPaths InvalidRows InvalidStock InvalidFlat InvalidCarried InvalidEngine InvalidCode InvalidWay
InvalidAnswers InvalidHeap InvalidRoots InvalidAddress InvalidClearing InvalidBettering InvalidPaper InvalidPattern
InvalidState InvalidMove InvalidPlay InvalidPicture CannotMove NothingToUndo NothingToRedo""".split()
WITH_ATTRIBUTE = {"InvalidText": "at", "NotLast": "deed", "TooMany": "limit"}


class ErrorsTest(unittest.TestCase):

    def test_base(self):
        self.assertEqual(errors.NearError.__bases__, (ValueError,))

    def test_direct_subclasses(self):
        for name in WITH_MESSAGE + list(WITH_ATTRIBUTE):
            self.assertEqual(getattr(errors, name).__bases__, (errors.NearError,), name)
            self.assertEqual(getattr(errors, name).__module__, "nearanswer.errors")

    def test_there_are_no_others(self):
        told = {name for name, one in vars(errors).items() if isinstance(one, type)}
        self.assertEqual(told, set(WITH_MESSAGE) | set(WITH_ATTRIBUTE) | {"NearError"})

    def test_messages(self):
        for name in WITH_MESSAGE + ["NearError"]:
            self.assertEqual(str(getattr(errors, name)("told so")), "told so")

    def test_attributes(self):
        for name, attribute in WITH_ATTRIBUTE.items():
            for told in (0, 7, "ask"):
                error = getattr(errors, name)(told)
                self.assertEqual(getattr(error, attribute), told)
                self.assertEqual(vars(error), {attribute: told})
                self.assertIsInstance(str(error), str)
