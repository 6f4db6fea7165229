"""[11], [57]: runs of programs by many steps."""

import sys
import unittest

from model import Model, TooLong
from nearanswer.errors import InvalidNumber, InvalidProgram, InvalidTree, TooMany
from nearanswer.rewriting import step_of
from nearanswer.runs import course_of, deeds_of, run_of, words_of
from nearanswer.texts import read_tree
from kinded import kinded_programs
from making import A, B, C, NO_PROGRAMS, NO_TREES, NUM, X, checked, error_of, programs, sized

LOOP = read_tree("rec f x = f x in f 1")
ACTIONS = (run_of, course_of, words_of, deeds_of)


class RunsTest(unittest.TestCase):

    def test_runs(self):
        for text, end, many in [
                (A, ("value", 13), 5), (B, ("value", 3), 6), ("1", ("value", 1), 0), ("1 2", ("stuck", "call"), 0),
                ("1 + 2 2", ("stuck", "call"), 0), ("match 1 {2 -> 3}", ("stuck", "match"), 0), ("No() + 1", ("stuck", "number"), 0),
                ("1000000000000 * 2", ("stuck", "great"), 0), ("do ask (1 + 2)", ("unanswered", "ask", 3), 1),
                ("One(fun x -> x)", ("value", ("One", ("fun",))), 0), ("do ask One(1 + 1)", ("unanswered", "ask", ("One", (2,))), 1)]:
            program = read_tree(text)
            self.assertEqual(run_of(program, 400), (end, many, ()), text)
            self.assertEqual(run_of(program, many), (end, many, ()), text)
            self.assertEqual(len(words_of(program, 400)), many)
            if many > 0:
                self.assertEqual(run_of(program, many - 1)[:2], (("more",), many - 1))

    def test_runs_go_by_steps(self):
        for tree in programs(14, 60) + [read_tree(text) for text in (A, B, C)]:
            programs_told = [tree]
            words = []
            end = None
            while len(words) < 20 and end is None:
                told = step_of(programs_told[-1])
                if told[0] == "step":
                    words.append(told[1])
                    programs_told.append(told[2])
                else:
                    end = told
            self.assertEqual(course_of(tree, 20), programs_told)
            self.assertEqual(words_of(tree, 20), words)
            many = len(words)
            for most in range(many + 1):
                self.assertEqual(course_of(tree, most), programs_told[:most + 1])
                self.assertEqual(words_of(tree, most), words[:most])
                if most < many:
                    self.assertEqual(run_of(tree, most), (("more",), most, programs_told[most]))

    def test_most(self):
        for most in (0, 1, 399, 400):
            self.assertEqual(run_of(LOOP, most)[:2], (("more",), most))
            self.assertEqual(len(course_of(LOOP, most)), most + 1)
            self.assertEqual(len(words_of(LOOP, most)), most)
            self.assertEqual(deeds_of(LOOP, most), [])
        for most in (-1, 401, True, False, None, "1", (1,), 10 ** 100):
            for action in ACTIONS:
                checked(self, InvalidNumber, action, LOOP, most)

    def test_deeds(self):
        nest = "answer answer do ask 1 + do tell 2 {plain x -> x; tell x k -> k 5} {plain x -> x; ask x k -> k (fun z -> z)}"
        self.assertEqual(deeds_of(read_tree(nest), 99), [("ask", 1, 2), ("tell", 2, 1)])
        self.assertEqual(deeds_of(read_tree(nest), 1), [("ask", 1, 2)])
        self.assertEqual(deeds_of(read_tree(nest), 0), [])
        text = "answer do ask One(fun x -> x) {plain x -> x; ask x k -> 1}"
        self.assertEqual(deeds_of(read_tree(text), 9), [("ask", ("One", ("fun",)), 1)])
        self.assertEqual(deeds_of(read_tree("do ask 1"), 9), [])
        outer = "answer 1 + (answer do ask 1 {plain x -> x; ask x k -> k 2}) {plain x -> x; tell x k -> 1}"
        self.assertEqual(deeds_of(read_tree(outer), 9), [("ask", 1, 1)])
        many = "answer answer answer do ask 1 {plain x -> x} {plain x -> x; tell x k -> 1} {plain x -> x; ask x k -> k x}"
        self.assertEqual(deeds_of(read_tree(many), 9), [("ask", 1, 3)])

    def test_errors_of_steps(self):
        double = ("fun", "x", ("shape", "Row", (X, X)))
        tree = ("call", double, ("call", double, sized(1000)))
        for action in ACTIONS:
            self.assertIsNone(error_of(action, tree, 1))
            checked(self, (TooMany, {"limit": 3000}), action, tree, 2)
        deep = read_tree("rec f x = f One(x) in f 1")
        for action in ACTIONS:
            self.assertEqual(error_of(action, deep, 400), (TooMany, {"limit": 120}))
        # What a step that is not done would come to is not looked at.
        self.assertEqual(run_of(tree, 1)[0], ("more",))

    def test_errors_of_arguments(self):
        for action in ACTIONS:
            for value in NO_TREES:
                checked(self, InvalidTree, action, value, None)
            for value in NO_PROGRAMS:
                checked(self, InvalidProgram, action, value, None)
            checked(self, InvalidNumber, action, NUM, 401)

    def test_lists_are_new(self):
        for action in (course_of, words_of, deeds_of):
            program = read_tree(A)
            action(program, 9).append(1)
            self.assertNotIn(1, action(program, 9))


class ModelTest(unittest.TestCase):
    """Runs show what a plain model tells that does no rewriting."""

    def check(self, tree, seen):
        if error_of(run_of, tree, 400) is not None:
            return
        end, _, _ = run_of(tree, 400)
        if end == ("more",):
            return
        model = Model()
        try:
            told = model.end(tree)
        except TooLong:
            return
        self.assertEqual(end, told)
        self.assertEqual([deed[:2] for deed in deeds_of(tree, 400)], model.deeds)
        seen[end[0]] = seen.get(end[0], 0) + 1

    def test_model(self):
        seen = {}
        limit = sys.getrecursionlimit()
        sys.setrecursionlimit(20000)
        try:
            for tree in programs(15, 600) + programs(16, 200, 6) + kinded_programs(17, 300):
                self.check(tree, seen)
        finally:
            sys.setrecursionlimit(limit)
        self.assertEqual(sorted(seen), ["stuck", "unanswered", "value"])
        self.assertGreater(min(seen.values()), 50)
