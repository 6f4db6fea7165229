"""[68], and of [3] that led programs show what programs show."""

import unittest

from answerers import TOLD, answerer_programs
from kinded import kinded_programs
from making import NO_PROGRAMS, NO_TREES, NUM, X, checked, error_of, programs, sized
from nearanswer.bynext import by_next
from nearanswer.bytrees import by_trees, end_told
from nearanswer.errors import InvalidEngine, InvalidNumber, InvalidProgram, InvalidTree, TooMany
from nearanswer.runs import run_of
from nearanswer.shownalike import are_shown_alike, shown_by
from nearanswer.texts import read_tree

ENGINES = ("rewriting", "trees", "next")
NO_ENGINES = [None, "", "tree", "Trees", 1, True, ("trees",), ["trees"], "rewriting ", b"trees"]
NO_STEPS = [3001, -1, True, False, None, "9", 9.0, (9,)]
LOOP = read_tree("rec f x = f x in f 1")
SIX = ("answer", NUM, ("x", X), tuple((deed, "e", "k", NUM) for deed in "abcdef"))
GREAT = read_tree("rec f x = f Two(x, x) in f 1")
DEEP = read_tree("rec f x = f One(x) in f 1")
LIMITS = [(TooMany, {"limit": 3000}), (TooMany, {"limit": 120})]
LED_DEEP = NUM
for _ in range(60):
    LED_DEEP = ("fun", "x", LED_DEEP)


class ShownAlikeTest(unittest.TestCase):

    def test_engines_show_the_same(self):
        alike = {}
        for program in programs(230, 250, 5) + kinded_programs(231, 120, 5) + answerer_programs():
            for engine in ("trees", "next"):
                try:
                    end, _ = shown_by(program, "rewriting", 3000)
                    told, _ = shown_by(program, engine, 3000)
                except (TooMany, InvalidTree):
                    continue
                if end != ("more",) and told != ("more",):
                    self.assertEqual(told, end)
                    self.assertIs(are_shown_alike(program, "rewriting", engine, 3000), True)
                    alike[end[0]] = alike.get(end[0], 0) + 1
        self.assertEqual(sorted(alike), ["stuck", "unanswered", "value"])
        self.assertGreater(min(alike.values()), 80)

    def test_ends(self):
        for text, end in TOLD:
            self.assertEqual(shown_by(read_tree(text), "rewriting", 3000)[0], end)

    def test_no_end(self):
        """A program without an end is led to programs without one."""
        for engine in ENGINES:
            self.assertEqual(shown_by(LOOP, engine, 3000), (("more",), 3000))
            self.assertEqual(shown_by(LOOP, engine, 0), (("more",), 0))

    def test_steps(self):
        for engine, many in [("rewriting", 1), ("trees", 12), ("next", 7)]:
            program = read_tree("1 + 2")
            self.assertEqual(shown_by(program, engine, many), (("value", 3), many))
            self.assertEqual(shown_by(program, engine, 3000), (("value", 3), many))
            self.assertEqual(shown_by(program, engine, many - 1), (("more",), many - 1))
        for text, _ in TOLD:
            program = read_tree(text)
            for engine, led in (("trees", by_trees), ("next", by_next)):
                if error_of(run_of, led(program), 60) is None:
                    end, many, _ = run_of(led(program), 60)
                    self.assertEqual(shown_by(program, engine, 60), (end_told(end), many))

    def test_ends_of_the_program_itself_are_not_told_anew(self):
        for text in ("Done(5)", "Did(Ask(), 1, fun x -> x)"):
            program = read_tree(text)
            shown = run_of(program, 0)[0]
            for engine in ENGINES:
                self.assertEqual(shown_by(program, engine, 400)[0], shown)

    def test_alike(self):
        for engine in ENGINES:
            for other in ENGINES:
                self.assertIs(are_shown_alike(read_tree("1 + 2"), engine, other, 12), True)
                self.assertIsNone(are_shown_alike(LOOP, engine, other, 50))
        self.assertIsNone(are_shown_alike(read_tree("1 + 2"), "rewriting", "trees", 11))
        self.assertIsNone(are_shown_alike(read_tree("1 + 2"), "trees", "rewriting", 11))
        self.assertIs(are_shown_alike(read_tree("1 + 2"), "next", "rewriting", 7), True)

    def test_errors_of_led_programs(self):
        self.assertEqual(shown_by(SIX, "rewriting", 9), (("value", 1), 1))
        self.assertIs(are_shown_alike(SIX, "rewriting", "rewriting", 9), True)
        for engine in ("trees", "next"):
            checked(self, (TooMany, {"limit": 5}), shown_by, SIX, engine, 9)
            checked(self, (TooMany, {"limit": 5}), are_shown_alike, SIX, engine, "rewriting", 9)
            checked(self, (TooMany, {"limit": 5}), are_shown_alike, SIX, "rewriting", engine, 9)
            checked(self, InvalidTree, shown_by, LED_DEEP, engine, 9)
            checked(self, InvalidTree, are_shown_alike, LED_DEEP, "rewriting", engine, 0)
            checked(self, InvalidNumber, shown_by, SIX, engine, 3001)
        self.assertEqual(shown_by(LED_DEEP, "rewriting", 9), (("value", "fun"), 0))

    def test_errors_of_steps(self):
        for program, error in zip((GREAT, DEEP), LIMITS):
            for engine in ENGINES:
                checked(self, error, shown_by, program, engine, 3000)
                checked(self, error, are_shown_alike, program, engine, engine, 3000)
            self.assertEqual(shown_by(program, "rewriting", 9), (("more",), 9))
        # Both engines run, also if the first one does not come to an end.
        program = ("let", "x", sized(900), ("shape", "Row", (X, X, X)))
        self.assertEqual(shown_by(program, "rewriting", 0), (("more",), 0))
        checked(self, InvalidTree, are_shown_alike, program, "rewriting", "next", 0)
        led_great = read_tree("let x = " + "Row(1, 1, 1, " * 12 + "1" + ")" * 12 + " in 1")
        self.assertEqual(shown_by(led_great, "rewriting", 1)[1], 1)
        checked(self, LIMITS[0], shown_by, led_great, "trees", 3000)
        checked(self, LIMITS[0], are_shown_alike, led_great, "rewriting", "trees", 3000)
        checked(self, LIMITS[0], are_shown_alike, led_great, "trees", "rewriting", 3000)

    def test_wrong_arguments(self):
        for value in NO_TREES:
            checked(self, InvalidTree, shown_by, value, None, None)
            checked(self, InvalidTree, are_shown_alike, value, None, None, None)
        for value in NO_PROGRAMS:
            checked(self, InvalidProgram, shown_by, value, None, None)
            checked(self, InvalidProgram, are_shown_alike, value, None, None, None)
        for value in NO_ENGINES:
            checked(self, InvalidEngine, shown_by, SIX, value, None)
            checked(self, InvalidEngine, are_shown_alike, SIX, value, None, None)
            checked(self, InvalidEngine, are_shown_alike, SIX, "trees", value, None)
        for value in NO_STEPS:
            checked(self, InvalidNumber, shown_by, SIX, "trees", value)
            checked(self, InvalidNumber, are_shown_alike, SIX, "trees", "next", value)
