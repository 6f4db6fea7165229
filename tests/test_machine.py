"""[29], [30], [72]: the machine, goings that copy, that move, and that copy as needed."""

import random
import unittest

from answerers import TEXTS, TOLD, answerer_programs
from codemachine import TooDeep, run
from codes import bent_code
from kinded import kinded_programs
from making import A, B, C, checked, programs
from nearanswer.errors import InvalidCode, InvalidNumber, InvalidWay, TooMany
from nearanswer.flatcode import code_of, is_code
from nearanswer.looking import is_sound
from nearanswer.machine import copies_needed, goings_of, pieces_of, run_code
from nearanswer.running import Course
from nearanswer.texts import read_tree
from nearanswer.trees import tree_size
from test_flatcode import NO_CODES
from test_looking import FAULTS

LOOP = code_of(read_tree("rec f x = f x in f 1"))
NO_WAYS = [None, "", "move", "Moved", 1, True, ("moved",), ["moved"], "copy", b"moved"]
NO_ORDERS = [2001, -1, True, False, None, "9", 9.0, (9,)]
DEEP = (TooMany, {"limit": 100})
ACTIONS = (goings_of, copies_needed, pieces_of)


def code(text):
    return code_of(read_tree(text))


def some_codes():
    told = programs(270, 400, 5) + kinded_programs(271, 150, 6) + answerer_programs() + [read_tree(text) for text in (A, B, C)]
    return [code_of(program) for program in told if tree_size(program) <= 400]


def deepening(depth):
    """A program that makes a shape of a depth, and then loses it."""
    return "rec f x = match x {0 -> 0; _ -> One(f (x - 1))} in match f " + str(depth - 1) + " {_ -> 7}"


class MachineTest(unittest.TestCase):

    def check_all(self, told, most):
        """All that the functions tell of a code is what the machine with frames that are changed tells."""
        try:
            copied = run(told, most, lambda going: True)
        except TooDeep:
            for way in ("copied", "needed"):
                checked(self, DEEP, run_code, told, most, way)
            return None
        self.assertEqual(run_code(told, most, "copied"), copied[:3])
        moved = run(told, most, lambda going: False)
        self.assertEqual(run_code(told, most, "moved"), moved[:3])
        goings = copied[3]
        needed = [at for at, number in enumerate(goings) if number in goings[at + 1:]]
        self.assertEqual(goings_of(told, most), goings)
        self.assertEqual(copies_needed(told, most), needed)
        self.assertEqual(run_code(told, most, "needed"), run(told, most, lambda going: going in needed)[:3])
        self.assertEqual(run_code(told, most, "needed")[:2], copied[:2])
        self.assertEqual(pieces_of(told, most), [tuple(pieces) for pieces in copied[4]])
        # Moving, the machine comes to the same end just if no rest is gone on with twice.
        self.assertEqual(moved[0][0] == "spent", len(set(goings)) < len(goings))
        if moved[0][0] != "spent":
            self.assertEqual(moved[:2], copied[:2])
        return copied

    def test_codes_of_programs(self):
        seen = {}
        for told in some_codes():
            for most in (0, 1, 7, 300, 2000):
                copied = self.check_all(told, most)
                if copied:
                    seen[copied[0][0]] = seen.get(copied[0][0], 0) + 1
        self.assertEqual(sorted(seen), ["more", "stuck", "unanswered", "value"])

    def test_sound_codes_of_no_program(self):
        chance = random.Random(272)
        many = 0
        for told in some_codes() * 3:
            bent = bent_code(chance, told)
            if is_code(bent) and is_sound(bent):
                self.check_all(bent, 200)
                many += 1
        self.assertGreater(many, 100)

    def test_ends_of_programs(self):
        """Copying, the machine comes to the end of the program."""
        for text, end in TOLD:
            self.assertEqual(run_code(code(text), 2000, "copied")[0], end, text)
        for program in programs(273, 250, 5) + kinded_programs(274, 150, 6):
            course = Course(program)
            try:
                course.lead(400)
                told = run_code(code_of(program), 2000, "copied")[0]
            except TooMany:
                continue
            if ("more",) not in (told, course.shown_ending()):
                self.assertEqual(told, course.shown_ending())

    def test_orders_that_are_not_done(self):
        for text, end, done in [
                ("1 2", ("stuck", "call"), 2), ("match 1 {2 -> 3}", ("stuck", "match"), 2), ("No() + 1", ("stuck", "number"), 2),
                ("1000000000000 * 2", ("stuck", "great"), 2), ("do ask 5", ("unanswered", "ask", 5), 1), ("1 + do ask No()", ("unanswered", "ask", ("No", ())), 2)]:
            for way in ("copied", "moved", "needed"):
                self.assertEqual(run_code(code(text), 2000, way), (end, done, 0))
                self.assertEqual(run_code(code(text), done + 1, way), (end, done, 0))
                self.assertEqual(run_code(code(text), done, way), (("more",), done, 0))
            self.assertEqual(len(pieces_of(code(text), 2000)), done + 1)
        self.assertEqual(run_code(code(B), 13, "moved"), (("spent", 0), 12, 0))
        self.assertEqual(run_code(code(B), 12, "moved"), (("more",), 12, 0))
        self.assertEqual(run_code(code("1"), 2, "moved"), (("value", 1), 2, 0))
        self.assertEqual(run_code(code("1"), 1, "moved"), (("more",), 1, 0))
        self.assertEqual(pieces_of(code("1"), 9), [(1,), (1,), ()])

    def test_rests_that_are_spent(self):
        for text, number in [
                (B, 0), ("answer do ask 1 + do ask 2 {plain x -> x; ask x k -> k (k x)}", 1),
                ("let k = answer do ask 1 + 5 {plain x -> x; ask x k -> k} in k 3 + k 4", 0),
                ("answer do ask 1 + do tell 2 {plain x -> x; ask x k -> k x; tell x k -> k x * k x}", 1)]:
            self.assertEqual(run_code(code(text), 2000, "moved")[0], ("spent", number), text)
        for text in ("let k = answer do ask 1 + 5 {plain x -> x; ask x k -> k} in k 3", A,
                     "answer do ask 1 + do ask 2 {plain x -> x; ask x k -> k x}"):
            self.assertEqual(run_code(code(text), 2000, "moved")[0][0], "value")

    def test_copies_as_needed(self):
        text = "answer do pick 0 + 1 {plain x -> x; pick x k -> let a = k 1 in let b = k 2 in k 3}"
        self.assertEqual(goings_of(code(text), 2000), [0, 0, 0])
        self.assertEqual(copies_needed(code(text), 2000), [0, 1])
        self.assertEqual(run_code(code(text), 2000, "copied")[2], 3)
        self.assertEqual(run_code(code(text), 2000, "needed")[2], 2)
        # Within the orders asked for, no rest is gone on with again.
        done = [len(goings_of(code(text), most)) for most in range(40)]
        most = done.index(1)
        self.assertEqual(run_code(code(text), most, "needed"), (("more",), most, 0))
        self.assertEqual(run_code(code(text), most, "copied"), (("more",), most, 1))
        self.assertEqual(copies_needed(code(text), most), [])

    def test_pieces(self):
        text = "answer answer do ask 1 {plain x -> x; tell y l -> l y} {plain x -> x; ask x k -> k x}"
        self.assertEqual(pieces_of(code(text), 99)[:5], [(1,), (1, 1), (1, 1, 1), (1, 1, 1), (2,)])
        self.assertEqual(pieces_of(code("(fun x -> x) 1"), 99), [(1,), (1,), (1,), (2,), (2,), (1,), ()])
        self.assertEqual(pieces_of(code(text), 0), [(1,)])

    def test_depths_of_shapes(self):
        for way in ("copied", "moved", "needed"):
            self.assertEqual(run_code(code(deepening(100)), 2000, way)[0], ("value", 7))
            checked(self, DEEP, run_code, code(deepening(101)), 2000, way)
        for action in ACTIONS:
            action(code(deepening(100)), 2000)
            checked(self, DEEP, action, code(deepening(101)), 2000)
        least = next(most for most in range(900, 2000) if self.raises(deepening(101), most))
        self.assertEqual(run_code(code(deepening(101)), least - 1, "copied")[:2], (("more",), least - 1))

    def raises(self, text, most):
        try:
            run_code(code(text), most, "copied")
        except TooMany:
            return True
        return False

    def test_functions_and_rests_in_shapes_have_the_depth_1(self):
        for inner in ("fun w -> w", "(answer do ask 1 {plain x -> x; ask x k -> k})", "1", "No()"):
            told = deepening(100).replace("0 -> 0", "0 -> " + inner)
            self.assertEqual(run_code(code(told), 2000, "copied")[0], ("value", 7))
            checked(self, DEEP, run_code, code(deepening(101).replace("0 -> 0", "0 -> " + inner)), 2000, "copied")

    def test_shapes_of_a_great_size(self):
        """No size is bounded; parts are shared."""
        told = code("rec f x = match x {0 -> 1; _ -> (fun y -> Two(y, y)) (f (x - 1))} in f 60")
        shown = run_code(told, 2000, "copied")[0][1]
        for _ in range(60):
            self.assertEqual(shown[0], "Two")
            shown = shown[1][1]
        self.assertEqual(shown, 1)

    def test_orders(self):
        for most in (0, 1, 2000):
            self.assertEqual(run_code(LOOP, most, "moved"), (("more",), most, 0))
            self.assertEqual(len(pieces_of(LOOP, most)), most + 1)
            self.assertEqual(goings_of(LOOP, most), [])

    def test_wrong_arguments(self):
        unsound = [told for told, _ in FAULTS]
        for value in NO_CODES + unsound:
            checked(self, InvalidCode, run_code, value, None, None)
            for action in ACTIONS:
                checked(self, InvalidCode, action, value, None)
        for most in NO_ORDERS:
            checked(self, InvalidNumber, run_code, LOOP, most, None)
            for action in ACTIONS:
                checked(self, InvalidNumber, action, LOOP, most)
        for way in NO_WAYS:
            checked(self, InvalidWay, run_code, LOOP, 9, way)
            checked(self, InvalidWay, run_code, code(deepening(101)), 2000, way)
        self.assertEqual(len(TEXTS), len(TOLD))
