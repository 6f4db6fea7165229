"""[75], and of [3] that programs all of whose answers go on last are led to ones without answerers."""

import random
import unittest

from answerers import answerer_programs
from kinded import kinded_programs
from lasting import last_programs
from making import A, B, C, NO_PROGRAMS, NO_TREES, NUM, X, checked, error_of, nested, programs
from nearanswer.errors import InvalidProgram, InvalidTree, NotLast, TooMany
from nearanswer.handedtrees import answered_deeds, goes_on_last, handed_tree
from nearanswer.names import is_program
from nearanswer.restuses import row_uses
from nearanswer.running import Course
from nearanswer.texts import read_tree
from nearanswer.treeforms import trees_in
from nearanswer.yields import asked

DEEDS = ("ask", "pick", "say", "tell", "turn")
ANSWERS = (("num", 0), ("num", 2), ("shape", "No", ()), ("shape", "One", (NUM,)))
LAST = [
    A, "answer 7 {plain x -> x}", "answer do ask 1 {plain x -> x}", "answer 1 + do ask 2 {plain x -> x; ask x k -> let y = x * 10 in k (y + 1)}",
    "answer answer do ask 1 {plain x -> x; ask x k -> k (do ask x + 1)} {plain x -> x * 2; ask y k -> k (y + 5)}",
    "answer answer do tell 1 + do ask 1 {plain x -> x; ask x k -> k (do tell x)} {plain x -> x; tell y l -> l (y + 1)}",
    "let f = fun x -> do ask x in answer f 1 + (answer f 2 {plain x -> x; ask x k -> k (f x)}) {plain x -> f x; ask x k -> k (x * 10)}",
    "rec f x = match x {0 -> do ask 0; _ -> do ask x + f (x - 1)} in answer f 3 {plain x -> x; ask x k -> k (x + 1)}",
    "answer do ask 1 {plain x -> x; ask x k -> k (do ask x)}", "answer do tell (do ask 1) {plain x -> x; ask x k -> match x {0 -> k 5; _ -> rec f y = y in k (f 6)}}",
    "let f = answer fun x -> do ask x {plain x -> x; ask x k -> k 1} in f 2", "answer do ask (fun x -> do ask x) {plain f -> f; ask g k -> k (g 1)}",
    "answer do ask 1 + 2 {plain x -> x; ask x k -> k (1 2)}", "answer 1 2 {plain x -> x; ask x k -> k 1}", "answer (fun x -> x) (1 2) {plain x -> x; ask x k -> k 1}",
    "answer Two(do ask 1, do pick 2) {plain x -> x; ask x k -> k (do pick x); pick x k -> k (x * 2)}",
    "answer answer Two(do ask 1, Two(do pick 2, do say 3)) {plain x -> x; ask x k -> k (do pick x); pick x k -> k (do say x)} {plain x -> One(x); say x k -> k (x * 2)}",
    "answer answer do ask 1 + do tell 2 + do say 3 {plain x -> x; tell x k -> k (do ask x)} {plain x -> do say x; ask x k -> k (x + 1); say x k -> k (x * 2)}",
    "answer Row(do ask 1, do pick 2, do say 3, do tell 4) {plain x -> x; tell x k -> k (do turn x); say x k -> k (x + 1); pick x k -> k (do ask x); ask x k -> k (do ask x)}",
]


def run_to_its_end(program, answers):
    """The shown end, and the deeds asked, of a program run with answers from outside; None if it comes to no end."""
    try:
        end, deeds, _ = asked(program, answers, 400)
    except TooMany:
        return None
    return None if end == ("more",) else (end, deeds)


class HandedTreesTest(unittest.TestCase):

    def check_same(self, program, answers):
        told = run_to_its_end(program, answers)
        handed = handed_tree(program)
        self.assertIs(is_program(handed), True)
        self.assertFalse(any(one[0] == "answer" for one in trees_in(handed)))
        led = run_to_its_end(handed, answers)
        if told is not None and led is not None:
            self.assertEqual(led, told)
            return told
        return None

    def test_programs(self):
        for text in LAST:
            program = read_tree(text)
            self.assertIs(goes_on_last(program), True, text)
            told = self.check_same(program, ())
            self.assertIsNotNone(told, text)
            answers = ()
            while told and told[0][0] == "unanswered" and len(answers) < 6:
                answers = answers + ((told[0][1], ("num", 3)),)
                told = self.check_same(program, answers)
                self.assertIsNotNone(told, text)

    def test_programs_by_chance(self):
        chance = random.Random(300)
        ends = {}
        asked_deeds = 0
        for many in (1, 2, 3, 4):
            for program in last_programs(301 + many, 150, 5, 1.0, DEEDS[:many]):
                if error_of(handed_tree, program):
                    continue
                answers = ()
                for _ in range(4):
                    told = self.check_same(program, answers)
                    if told is None:
                        break
                    ends[told[0][0]] = ends.get(told[0][0], 0) + 1
                    asked_deeds = max(asked_deeds, len(told[1]))
                    if told[0][0] != "unanswered":
                        break
                    answers = answers + ((told[0][1], chance.choice(ANSWERS)),)
        self.assertEqual(sorted(ends), ["stuck", "unanswered", "value"])
        self.assertGreater(min(ends.values()), 60)
        self.assertGreater(asked_deeds, 2)

    def test_answers_of_another_deed(self):
        program = read_tree("answer do ask 1 + do tell 2 {plain x -> x; ask x k -> k (do ask x)}")
        for answers in [(("tell", NUM),), (("ask", NUM), ("ask", NUM)), (("ask", NUM), ("tell", NUM), ("tell", NUM))]:
            self.assertIsNotNone(self.check_same(program, answers))

    def test_programs_without_answerers(self):
        for program in programs(306, 100, 4) + [read_tree(C), read_tree("do ask 1"), NUM]:
            if not any(one[0] == "answer" for one in trees_in(program)):
                self.assertIsNone(error_of(handed_tree, program))
                course, led = Course(program), Course(handed_tree(program))
                if error_of(course.lead, 50) is None:
                    led.lead(50)
                    self.assertEqual(led.shown_ending(), course.shown_ending())
        deep = nested(119)
        self.assertIs(is_program(handed_tree(deep)), True)

    def test_answered_deeds(self):
        for text, deeds in [
                ("1", []), ("do ask 1", []), ("answer do ask 1 {plain x -> x}", []), (A, ["ask"]), (B, ["pick"]),
                ("answer 1 {plain x -> answer x {plain x -> x; zap y k -> 1; ask y k -> fun z -> answer z {plain x -> x; ask y k -> 1; tell y k -> 2}}}", ["ask", "tell", "zap"])]:
            self.assertEqual(answered_deeds(read_tree(text)), deeds)
        self.assertEqual(answered_deeds(("answer", X, ("x", X), (("ask", "x", "k", ("name", "y")),))), ["ask"])

    def test_going_on_last(self):
        for program in last_programs(307, 100, 5, 0.6) + programs(308, 100, 5) + kinded_programs(309, 60, 6) + answerer_programs():
            words = [word for _, _, word in row_uses(program)]
            told = all(word == "last" for word in words)
            self.assertIs(goes_on_last(program), told)
            if not told:
                deed = next(deed for _, deed, word in row_uses(program) if word != "last")
                checked(self, (NotLast, {"deed": deed}), handed_tree, program)

    def test_the_first_row_that_does_not_go_on_last(self):
        for text, deed in [
                ("answer 1 {plain x -> x; ask x k -> 1; tell x k -> 2}", "ask"), ("answer 1 {plain x -> x; ask x k -> k x; tell x k -> 2}", "tell"),
                ("answer answer 1 {plain x -> x; zap x k -> 1} {plain x -> x; ask x k -> k x; tell x k -> 2}", "tell"),
                ("answer answer 1 {plain x -> x; zap x k -> 1} {plain x -> x; ask x k -> k x; tell x k -> k 2}", "zap"), (B, "pick")]:
            checked(self, (NotLast, {"deed": deed}), handed_tree, read_tree(text))

    def test_four_and_five_answered_deeds(self):
        rows = tuple((deed, "e", "k", ("call", ("name", "k"), ("name", "e"))) for deed in DEEDS)
        four = ("answer", ("do", "ask", NUM), ("x", X), rows[:4])
        self.assertEqual(run_to_its_end(handed_tree(four), ()), (("value", 1), []))
        five = ("answer", four, ("x", X), rows[4:])
        checked(self, (TooMany, {"limit": 4}), handed_tree, five)
        checked(self, (TooMany, {"limit": 4}), handed_tree, ("answer", NUM, ("x", X), rows))
        # NotLast stands ahead of TooMany, and this ahead of InvalidTree.
        never = ("answer", five, ("x", X), (("ask", "e", "k", NUM),))
        checked(self, (NotLast, {"deed": "ask"}), handed_tree, never)
        deep = NUM
        for _ in range(110):
            deep = ("fun", "x", deep)
        checked(self, InvalidTree, handed_tree, ("answer", deep, ("x", X), rows[:1]))
        checked(self, (TooMany, {"limit": 4}), handed_tree, ("answer", deep, ("x", X), rows))

    def test_wrong_arguments(self):
        for value in NO_TREES:
            for action in (answered_deeds, goes_on_last, handed_tree):
                checked(self, InvalidTree, action, value)
        for value in NO_PROGRAMS:
            checked(self, InvalidProgram, handed_tree, value)
            self.assertIsInstance(answered_deeds(value), list)
            self.assertIsInstance(goes_on_last(value), bool)
