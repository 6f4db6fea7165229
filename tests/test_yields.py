"""[36], [76], and of [3] that the rest of a deed that nobody answers goes on as the program does."""

import random
import unittest

from answerers import answerer_programs
from kinded import kinded_programs
from lasting import last_programs
from making import A, NO_NAMES, NO_PROGRAMS, NO_TREES, NUM, X, checked, error_of, nested, programs, sized
from nearanswer.errors import InvalidAnswers, InvalidNumber, InvalidProgram, InvalidTree, TooMany
from nearanswer.rewriting import next_place, step_of
from nearanswer.runs import course_of, run_of
from nearanswer.talks import talk_of
from nearanswer.texts import read_tree
from nearanswer.trees import part_at, put_at, tree_depth
from nearanswer.yields import asked, yield_of
from test_talks import NO_VALUES, next_of, shown

LOOP = read_tree("rec f x = f x in f 1")
ASKING = read_tree("do ask 1 + do tell 2")
ASKING_ON = read_tree("rec f x = let y = do ask x in f (x + 1) in f 0")
NO_STEPS = [401, -1, True, False, None, "9", 9.0, (9,)]
VALUES = [NUM, ("num", 7), ("shape", "Yes", ()), ("fun", "x", X)]
NO_ANSWERS = [None, 1, "ask", NUM, ["ask"], [("ask", NUM)], ("ask", NUM), (("ask",),), (("ask", NUM, NUM),), (["ask", NUM],), ((NUM, "ask"),), (None,),
              (("ask", NUM),) * 41] + [((name, NUM),) for name in NO_NAMES] + [(("ask", value),) for value in NO_VALUES] + [(("ask", NUM), ("ask", None))]


def some_programs():
    return programs(310, 250, 5) + kinded_programs(311, 100, 6) + last_programs(312, 150, 5, 0.5) + answerer_programs()


def asked_by_hand(program, answers, most):
    """[36] by single steps and put_at."""
    answers = list(answers)
    given = []
    steps = 0
    while True:
        told = next_of(program)
        if told[0] == "unanswered" and answers and answers[0][0] == told[1]:
            given.append((told[1], shown(told[2])))
            program = put_at(program, next_place(program), answers.pop(0)[1])
        elif told[0] != "step":
            return run_of(program, 0)[0], given, steps
        elif steps == most:
            return ("more",), given, steps
        else:
            steps += 1
            program = told[2]


class YieldsTest(unittest.TestCase):

    def test_yields(self):
        told_yields = 0
        for program in some_programs():
            for most in (0, 4, 40):
                if error_of(course_of, program, most):
                    continue
                told = yield_of(program, most)
                behind = course_of(program, most)[-1]
                end = next_of(behind)
                if end[0] != "unanswered":
                    self.assertEqual(told, run_of(program, most)[0])
                    continue
                told_yields += 1
                again = put_at(behind, next_place(behind), ("name", "it"))
                self.assertEqual(told, ("yield", end[1], end[2], ("fun", "it", again)))
                self.check_rest(told[3], behind)
        self.assertGreater(told_yields, 100)

    def check_rest(self, rest, behind):
        """Gone on with, the rest is the program with the value in the place of the do."""
        for value in VALUES:
            call = ("call", rest, value)
            if error_of(step_of, call) is None:
                self.assertEqual(step_of(call), ("step", "call", put_at(behind, next_place(behind), value)))

    def test_small_yields(self):
        for text, most, told in [
                ("do ask 5", 0, ("yield", "ask", ("num", 5), ("fun", "it", ("name", "it")))), ("1 + 2", 0, ("more",)), ("1 + 2", 1, ("value", 3)), ("1 2", 0, ("stuck", "call")),
                ("One(fun x -> x)", 0, ("value", ("One", ("fun",)))), ("do ask (1 + 1)", 0, ("more",)), ("do ask (1 + 1)", 1, ("yield", "ask", ("num", 2), ("fun", "it", ("name", "it")))),
                ("answer do ask 5 {plain it -> it}", 9, ("yield", "ask", ("num", 5), ("fun", "it", ("answer", ("name", "it"), ("it", ("name", "it")), ())))),
                ("do ask Two(1, fun x -> x)", 0, ("yield", "ask", ("shape", "Two", (NUM, ("fun", "x", X))), ("fun", "it", ("name", "it"))))]:
            self.assertEqual(yield_of(read_tree(text), most), told)

    def test_deepest_yields(self):
        deep = ("do", "ask", NUM)
        for _ in range(118):
            deep = ("shape", "One", (deep,))
        self.assertEqual(tree_depth(deep), 120)
        told = yield_of(deep, 0)
        self.assertEqual((told[:3], part_at(told[3], (0,) * 119)), (("yield", "ask", NUM), ("name", "it")))
        wide = ("op", "+", ("do", "ask", NUM), nested(118))
        self.assertEqual(yield_of(wide, 0)[3], ("fun", "it", ("op", "+", ("name", "it"), nested(118))))

    def test_asked(self):
        chance = random.Random(313)
        many_given = 0
        for program in some_programs():
            for most in (0, 3, 40):
                answers = tuple((chance.choice(["ask", "ask", "pick", "tell"]), chance.choice(VALUES)) for _ in range(chance.randrange(7)))
                if error_of(asked, program, answers, most):
                    continue
                told = asked(program, answers, most)
                self.assertEqual(told, asked_by_hand(program, answers, most))
                many_given += len(told[1])
        self.assertGreater(many_given, 100)

    def test_deeds_unlike(self):
        for answers, told in [
                ((), (("unanswered", "ask", 1), [], 0)), ((("tell", NUM),), (("unanswered", "ask", 1), [], 0)), ((("ask", NUM),), (("unanswered", "tell", 2), [("ask", 1)], 0)),
                ((("ask", NUM), ("ask", NUM)), (("unanswered", "tell", 2), [("ask", 1)], 0)), ((("tell", NUM), ("ask", NUM)), (("unanswered", "ask", 1), [], 0)),
                ((("ask", NUM), ("tell", ("num", 5)), ("ask", NUM)), (("value", 6), [("ask", 1), ("tell", 2)], 1)),
                ((("ask", ("fun", "x", X)), ("tell", NUM)), (("stuck", "number"), [("ask", 1), ("tell", 2)], 0))]:
            self.assertEqual(asked(ASKING, answers, 400), told)
        self.assertEqual(asked(read_tree(A), (("ask", NUM),), 400), (("value", 13), [], 5))

    def test_asked_and_talks(self):
        """With as many answers of the deeds that come, a program asked is a talk."""
        for program in some_programs()[:200]:
            answers = ()
            while len(answers) < 4 and error_of(asked, program, answers, 100) is None:
                end, given, _ = asked(program, answers, 100)
                told = talk_of(program, tuple(value for _, value in answers), 100)
                self.assertEqual((given, end), told)
                if end[0] != "unanswered":
                    break
                answers += ((end[1], VALUES[len(answers)]),)

    def test_steps_and_answers_bounded(self):
        self.assertEqual(asked(LOOP, (), 400), (("more",), [], 400))
        self.assertEqual(yield_of(LOOP, 400), ("more",))
        self.assertEqual(asked(ASKING_ON, (("ask", NUM),) * 40, 400)[1], [("ask", at) for at in range(40)])
        checked(self, InvalidAnswers, asked, ASKING_ON, (("ask", NUM),) * 41, 400)
        two = read_tree("let x = do ask 1 in let y = do ask 2 in x + y")
        answers = (("ask", NUM), ("ask", NUM))
        for most, told in [(0, (("more",), [("ask", 1)], 0)), (1, (("more",), [("ask", 1), ("ask", 2)], 1)), (2, (("more",), [("ask", 1), ("ask", 2)], 2)),
                           (3, (("value", 2), [("ask", 1), ("ask", 2)], 3))]:
            self.assertEqual(asked(two, answers, most), told)

    def test_errors_of_steps(self):
        great, deep = (TooMany, {"limit": 3000}), (TooMany, {"limit": 120})
        for text, error in [("rec f x = f Two(x, x) in f 1", great), ("rec f x = f One(x) in f 1", deep)]:
            checked(self, error, yield_of, read_tree(text), 400)
            checked(self, error, asked, read_tree(text), (), 400)
        row = ("shape", "Row", (("do", "ask", NUM), sized(1000)))
        self.assertEqual(asked(row, (("ask", sized(1999)),), 0)[0][0], "value")
        checked(self, great, asked, row, (("ask", sized(2000)),), 0)
        checked(self, deep, asked, ("shape", "One", (("do", "ask", NUM),)), (("ask", nested(119)),), 0)
        self.assertEqual(asked(row, (("tell", sized(2000)),), 0)[0], ("unanswered", "ask", 1))

    def test_wrong_arguments(self):
        for value in NO_TREES:
            checked(self, InvalidTree, yield_of, value, None)
            checked(self, InvalidTree, asked, value, None, None)
        for value in NO_PROGRAMS:
            checked(self, InvalidProgram, yield_of, value, None)
            checked(self, InvalidProgram, asked, value, None, None)
        for answers in NO_ANSWERS:
            checked(self, InvalidAnswers, asked, ASKING, answers, None)
        for most in NO_STEPS:
            checked(self, InvalidNumber, yield_of, ASKING, most)
            checked(self, InvalidNumber, asked, ASKING, (), most)
