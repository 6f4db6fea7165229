"""[26], [69]: talks."""

import random
import unittest

from answerers import answerer_programs
from kinded import kinded_programs
from making import NO_PROGRAMS, NO_TREES, NUM, X, Maker, checked, error_of, nested, programs, sized
from nearanswer.errors import InvalidNumber, InvalidProgram, InvalidTree, InvalidValue, TooMany
from nearanswer.rewriting import next_place, step_of
from nearanswer.runs import run_of
from nearanswer.talks import deed_tree, program_behind, talk_of
from nearanswer.texts import read_tree
from nearanswer.trees import put_at

NO_VALUES = [value for value in NO_TREES + NO_PROGRAMS + [read_tree("1 + 2"), read_tree("do ask 1"), read_tree("One(1 2)")]]
NO_STEPS = [3001, -1, True, False, None, "9", 9.0, (9,)]
ASKING = read_tree("do ask 1 + do ask 2")
ASKING_ON = read_tree("rec f x = let y = do ask x in f (x + 1) in f 0")
GREAT = (TooMany, {"limit": 3000})
DEEP = (TooMany, {"limit": 120})


def number(told):
    return ("num", told)


def next_of(program):
    """What step_of tells, also of a program behind which one would be too great or too deep."""
    if error_of(step_of, program):
        return ("step", None, None)
    return step_of(program)


def talked(program, answers, most):
    """A talk by single steps and put_at: the deeds, what the program is at the end, and whether it is at its end."""
    deeds = []
    answers = list(answers)
    steps = 0
    while True:
        told = next_of(program)
        if told[0] == "unanswered" and answers:
            deeds.append((told[1], shown(told[2])))
            program = put_at(program, next_place(program), answers.pop(0))
        elif told[0] != "step":
            return deeds, program, True
        elif steps == most:
            return deeds, program, False
        else:
            steps += 1
            program = told[2]


def shown(value):
    if value[0] == "shape":
        return (value[1], tuple(shown(part) for part in value[2]))
    return value[1] if value[0] == "num" else "fun"


def talking_programs():
    maker = Maker(240)
    told = [("op", "+", ("do", "ask", maker.tree(2, ())), maker.tree(4, ())) for _ in range(150)]
    return told + programs(241, 150, 5) + kinded_programs(242, 100, 6) + answerer_programs()


def some_answers(chance, least, most):
    values = [number(0), number(7), ("shape", "Yes", ()), ("shape", "Two", (NUM, NUM)), ("fun", "x", X), read_tree("fun x -> do ask x")]
    return tuple(chance.choice(values) for _ in range(chance.randrange(least, most + 1)))


class TalksTest(unittest.TestCase):

    def test_talks_go_by_single_steps(self):
        chance = random.Random(243)
        deeds_told = 0
        for program in talking_programs():
            for most in (0, 3, 60):
                answers = some_answers(chance, 0, 12)
                if error_of(program_behind, program, answers, most):
                    continue
                deeds, behind, is_end = talked(program, answers, most)
                end = run_of(behind, 0)[0] if is_end else ("more",)
                self.assertEqual(talk_of(program, answers, most), (deeds, end))
                self.assertEqual(program_behind(program, answers, most), behind)
                deeds_told += len(deeds)
        self.assertGreater(deeds_told, 200)

    def test_answers_left_over_and_used_up(self):
        for answers, told in [
                ((), ([], ("unanswered", "ask", 1))), ((number(10),), ([("ask", 1)], ("unanswered", "ask", 2))),
                ((number(10), number(20)), ([("ask", 1), ("ask", 2)], ("value", 30))), ((number(10),) * 12, ([("ask", 1), ("ask", 2)], ("value", 20))),
                ((("fun", "x", X), NUM), ([("ask", 1), ("ask", 2)], ("stuck", "number")))]:
            self.assertEqual(talk_of(ASKING, answers, 9), told)
        self.assertEqual(talk_of(read_tree("do tell Two(1, fun x -> x)"), (), 9), ([], ("unanswered", "tell", ("Two", (1, "fun")))))
        self.assertEqual(talk_of(read_tree("1 2"), (NUM,), 9), ([], ("stuck", "call")))
        self.assertEqual(talk_of(read_tree("3"), (NUM,), 9), ([], ("value", 3)))

    def test_steps_are_counted_in_all(self):
        program = read_tree("let x = do ask 1 in let y = do ask x in x + y")
        answers = (number(4), number(5))
        self.assertEqual(talk_of(program, answers, 3), ([("ask", 1), ("ask", 4)], ("value", 9)))
        self.assertEqual(talk_of(program, answers, 2), ([("ask", 1), ("ask", 4)], ("more",)))
        self.assertEqual(talk_of(program, answers, 1), ([("ask", 1), ("ask", 4)], ("more",)))
        self.assertEqual(talk_of(program, answers, 0), ([("ask", 1)], ("more",)))
        self.assertEqual(talk_of(program, (), 0), ([], ("unanswered", "ask", 1)))
        self.assertEqual(program_behind(program, answers, 0), read_tree("let x = 4 in let y = do ask x in x + y"))
        self.assertEqual(program_behind(program, answers, 1), read_tree("let y = 5 in 4 + y"))
        self.assertEqual(program_behind(program, answers[:1], 3000), read_tree("let y = do ask 4 in 4 + y"))

    def test_answers_from_inside_stand_first(self):
        program = read_tree("answer do ask 1 + do tell 2 {plain x -> x; ask x k -> k (x + 10)}")
        self.assertEqual(talk_of(program, (number(5), number(6)), 99), ([("tell", 2)], ("value", 16)))

    def test_twelve_answers(self):
        self.assertEqual(len(talk_of(ASKING_ON, (NUM,) * 12, 3000)[0]), 12)
        for action in (talk_of, program_behind):
            checked(self, InvalidValue, action, ASKING_ON, (NUM,) * 13, 9)
            checked(self, InvalidValue, action, ASKING_ON, (NUM,) * 13, None)
        self.assertEqual(talk_of(read_tree("rec f x = f x in f 1"), (), 3000)[1], ("more",))

    def test_answers_that_are_too_great_or_too_deep(self):
        """Giving an answer raises the errors of a step, also with no steps left."""
        row = ("shape", "Row", (("do", "ask", NUM), sized(1000)))
        self.assertEqual(talk_of(row, (sized(1999),), 0)[1][0], "value")
        for action in (talk_of, program_behind):
            checked(self, GREAT, action, row, (sized(2000),), 0)
            checked(self, DEEP, action, ("shape", "One", (("do", "ask", NUM),)), (nested(119),), 0)
            checked(self, GREAT, action, row, (sized(2999),), 9)
        checked(self, GREAT, deed_tree, row, (sized(2000),), 1, 9)
        checked(self, DEEP, deed_tree, ("shape", "One", (("do", "ask", NUM),)), (NUM, nested(119)), 1, 9)
        self.assertEqual(deed_tree(row, (sized(2000),), 0, 9), ("did", "ask", 1, ()))
        checked(self, GREAT, talk_of, read_tree("rec f x = f Two(x, x) in f (do ask 1)"), (NUM,), 3000)
        checked(self, DEEP, talk_of, read_tree("rec f x = f One(x) in f (do ask 1)"), (NUM,), 3000)

    def test_deed_trees(self):
        menu = (number(0), number(5))
        self.assertEqual(deed_tree(ASKING, menu, 2, 9), ("did", "ask", 1, (
            ("did", "ask", 2, (("value", 0), ("value", 5))), ("did", "ask", 2, (("value", 5), ("value", 10))))))
        self.assertEqual(deed_tree(ASKING, menu[1:], 1, 9), ("did", "ask", 1, (("did", "ask", 2, ()),)))
        self.assertEqual(deed_tree(read_tree("3"), menu, 4, 0), ("value", 3))
        self.assertEqual(deed_tree(read_tree("One(fun x -> x)"), menu, 0, 0), ("value", ("One", ("fun",))))
        self.assertEqual(deed_tree(read_tree("1 2"), menu, 4, 0), ("stuck", "call"))
        self.assertEqual(deed_tree(read_tree("1 + 2"), menu, 4, 0), ("more",))
        asking = read_tree("match do ask 1 {0 -> 1 + 1; _ -> 1 + 1 + 1}")
        self.assertEqual(deed_tree(asking, menu, 1, 2), ("did", "ask", 1, (("value", 2), ("more",))))
        self.assertEqual(deed_tree(asking, (("shape", "No", ()), number(0), number(1)), 1, 3), ("did", "ask", 1, (("value", 3), ("value", 2), ("value", 3))))

    def test_each_part_has_its_own_steps(self):
        """Each part runs so many steps by itself."""
        program = read_tree("let a = 1 + 1 in let b = do ask a in let c = b + 1 in do ask c")
        told = deed_tree(program, (number(3),), 2, 3)
        self.assertEqual(told, ("did", "ask", 2, (("did", "ask", 4, (("value", 3),)),)))
        self.assertEqual(deed_tree(program, (number(3),), 2, 2), ("did", "ask", 2, (("more",),)))
        self.assertEqual(deed_tree(program, (number(3),), 2, 1), ("more",))

    def test_deepest_deed_trees(self):
        told = deed_tree(ASKING_ON, (NUM, number(2), number(3)), 4, 3000)
        many = 1
        layer = [told]
        for _ in range(4):
            layer = [part for one in layer for part in one[3]]
            many += len(layer)
        self.assertEqual(many, 1 + 3 + 9 + 27 + 81)
        self.assertEqual({one[:2] + one[3:] for one in layer}, {("did", "ask", ())})
        self.assertEqual({one[2] for one in layer}, {4})

    def test_deed_trees_are_talks(self):
        chance = random.Random(244)
        for program in talking_programs()[:200]:
            menu = some_answers(chance, 1, 2) or (NUM,)
            if error_of(deed_tree, program, menu, 2, 40) is None:
                told = deed_tree(program, menu, 2, 40)
                self.check_deed_tree(told, program, menu, 2)

    def check_deed_tree(self, told, program, menu, deep):
        deeds, behind, is_end = talked(program, (), 40)
        if not is_end:
            self.assertEqual(told, ("more",))
            return
        end = run_of(behind, 0)[0]
        if end[0] != "unanswered":
            self.assertEqual(told, end)
            return
        self.assertEqual(told[:3], ("did",) + end[1:])
        self.assertEqual(len(told[3]), len(menu) if deep else 0)
        for value, part in zip(menu, told[3]):
            self.check_deed_tree(part, put_at(behind, next_place(behind), value), menu, deep - 1)

    def test_wrong_arguments(self):
        for value in NO_TREES:
            checked(self, InvalidTree, talk_of, value, None, None)
            checked(self, InvalidTree, program_behind, value, None, None)
            checked(self, InvalidTree, deed_tree, value, None, None, None)
        for value in NO_PROGRAMS:
            checked(self, InvalidProgram, talk_of, value, None, None)
            checked(self, InvalidProgram, program_behind, value, None, None)
            checked(self, InvalidProgram, deed_tree, value, None, None, None)
        for values in [None, NUM, [NUM], "x", 1] + [(NUM, value) for value in NO_VALUES] + [(value,) for value in NO_VALUES]:
            checked(self, InvalidValue, talk_of, ASKING, values, None)
            checked(self, InvalidValue, program_behind, ASKING, values, None)
            checked(self, InvalidValue, deed_tree, ASKING, values, None, None)
        for menu in ((), (NUM,) * 4):
            checked(self, InvalidValue, deed_tree, ASKING, menu, None, None)
        for deep in (5, -1, True, False, None, "1", (1,)):
            checked(self, InvalidNumber, deed_tree, ASKING, (NUM,), deep, 9)
        for most in NO_STEPS:
            checked(self, InvalidNumber, talk_of, ASKING, (NUM,), most)
            checked(self, InvalidNumber, program_behind, ASKING, (NUM,), most)
            checked(self, InvalidNumber, deed_tree, ASKING, (NUM,), 4, most)
        self.assertEqual(deed_tree(ASKING, (NUM,) * 3, 0, 3000), ("did", "ask", 1, ()))
