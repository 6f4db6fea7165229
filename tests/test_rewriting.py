"""[9], [10], [11], [56]: values, next places, steps and ends; of the guarantees those of single steps."""

import copy
import unittest

from nearanswer.errors import InvalidProgram, InvalidTree, InvalidValue, TooMany
from nearanswer.names import are_alike, is_program, with_plain_names
from nearanswer.rewriting import answerer_for, is_value, next_place, shown_value, step_of
from nearanswer.texts import read_tree
from nearanswer.trees import part_at, tree_depth, tree_size
from making import A, B, C, NO_PROGRAMS, NO_TREES, NUM, X, checked, nested, programs, sized

GREAT = ("num", 10 ** 12)


def step(text):
    """The word of a step and the program behind it, or an end."""
    told = step_of(read_tree(text))
    return told[1:] if told[0] == "step" else told


class StepsTest(unittest.TestCase):

    def check_step(self, text, word, behind):
        self.assertEqual(step(text), (word, read_tree(behind)), text)

    def test_call(self):
        self.check_step("(fun x -> x + x) 2", "call", "2 + 2")
        self.check_step("(fun x -> fun x -> x) 2", "call", "fun x -> x")
        self.check_step("(fun x -> fun y -> x y) (fun z -> z)", "call", "fun y -> (fun z -> z) y")
        self.check_step("(fun x -> 1) (2 + 3)", "op", "(fun x -> 1) 5")
        self.check_step("(fun f -> f) (fun x -> x) (1 + 1)", "call", "(fun x -> x) (1 + 1)")
        for text in ("1 2", "No() (fun x -> x)", "1 (fun x -> x)"):
            self.assertEqual(step(text), ("stuck", "call"))

    def test_let_and_rec(self):
        self.check_step("let x = 1 in x + (let x = 2 in x)", "let", "1 + (let x = 2 in x)")
        self.check_step("let x = 1 + 1 in x", "op", "let x = 2 in x")
        self.check_step("rec f x = f x in f 1", "rec", "(fun x -> rec f x = f x in f x) 1")
        self.check_step("rec f x = 1 + 1 in 2 + 3", "rec", "2 + 3")
        self.check_step("rec f x = f in fun f -> f", "rec", "fun f -> f")

    def test_match(self):
        for text, behind in [
                ("match 1 {_ -> 2}", "2"), ("match 1 {x -> x}", "1"), ("match 1 {2 -> 3; 1 -> 4; _ -> 5}", "4"),
                ("match fun x -> x {f -> f 1}", "(fun x -> x) 1"), ("match One(1) {One() -> 1; One(2) -> 2; One(x) -> x}", "1"),
                ("match Two(1, One(2)) {Two(x, One(y)) -> x - y}", "1 - 2"), ("match No() {Yes() -> 1; No() -> 2}", "2"),
                ("match fun x -> x {1 -> 1; No() -> 2; _ -> 3}", "3"), ("match One(1) {One(_) -> 1; _ -> 2}", "1"),
                ("match Two(fun x -> x, 1) {Two(_, 2) -> 1; Two(f, 1) -> f}", "fun x -> x")]:
            self.check_step(text, "match", behind)
        self.check_step("match 1 + 1 {_ -> 1}", "op", "match 2 {_ -> 1}")
        for text in ("match 1 {2 -> 1}", "match fun x -> x {1 -> 1; No() -> 2}", "match No() {No(_) -> 1; Yes() -> 2; 1 -> 1}",
                     "match One(fun x -> x) {One(1) -> 1; One(One(_)) -> 2}", "match 1 {One(_) -> 1}"):
            self.assertEqual(step(text), ("stuck", "match"), text)

    def test_op(self):
        for text, behind in [
                ("1 + 2", "3"), ("1 - 2", "(-1)"), ("2 * 3", "6"), ("1 < 2", "Yes()"), ("2 < 2", "No()"), ("3 < 2", "No()"),
                ("2 = 2", "Yes()"), ("2 = 3", "No()"), ("(-2) * 3", "(-6)"), ("1 + 2 * 3", "1 + 6"), ("(1 + 2) * (3 + 4)", "3 * (3 + 4)"),
                ("999999999999 + 1", "1000000000000"), ("(-999999999999) - 1", "(-1000000000000)"), ("1000000 * 1000000", "1000000000000")]:
            self.check_step(text, "op", behind)
        for text in ("1 + No()", "No() + 1", "(fun x -> x) < 1", "1 = No()", "No() = No()", "(fun x -> x) * (fun x -> x)"):
            self.assertEqual(step(text), ("stuck", "number"), text)
        for text in ("1000000000000 + 1", "(-1000000000000) - 1", "1000001 * 1000000", "1000000000000 * 1000000000000"):
            self.assertEqual(step(text), ("stuck", "great"), text)
        self.assertEqual(step("1000000000000 < (-1000000000000)"), ("op", ("shape", "No", ())))

    def test_shapes(self):
        self.check_step("Two(1 + 1, 2 + 2)", "op", "Two(2, 2 + 2)")
        self.check_step("Two(1, One(2 + 2))", "op", "Two(1, One(4))")
        self.check_step("Two(1, (fun x -> x) 2)", "call", "Two(1, 2)")

    def test_plain(self):
        self.check_step("answer 1 {plain x -> x + x; ask x k -> 5}", "plain", "1 + 1")
        self.check_step("answer fun y -> y {plain x -> x}", "plain", "fun y -> y")
        self.check_step("answer 1 + 1 {plain x -> x}", "op", "answer 2 {plain x -> x}")

    def test_deed(self):
        self.check_step("answer do ask 1 {plain x -> 1; ask x k -> k x}", "deed",
                        "(fun it -> answer it {plain x -> 1; ask x k -> k x}) 1")
        self.check_step("answer do ask (1 + 1) {plain x -> 1; ask x k -> k x}", "op",
                        "answer do ask 2 {plain x -> 1; ask x k -> k x}")
        # The nearest answerer that has a row for the deed answers, with those nearer in the rest.
        self.check_step("answer answer do ask 1 {plain x -> x; tell x k -> 2} {plain x -> x; ask x k -> k}", "deed",
                        "fun it -> answer answer it {plain x -> x; tell x k -> 2} {plain x -> x; ask x k -> k}")
        self.check_step("answer answer do ask 1 {plain x -> x; ask x k -> x} {plain x -> x; ask x k -> k}", "deed",
                        "answer 1 {plain x -> x; ask x k -> k}")
        # What stands around the do within the answerer goes into the rest, what stands around the answerer does not.
        self.check_step("5 + (answer 1 + do ask 2 * 3 {plain x -> x; ask x k -> k (x + 1)})", "deed",
                        "5 + (fun it -> answer 1 + it * 3 {plain x -> x; ask x k -> k (x + 1)}) (2 + 1)")
        # A row's own body is not within the answerer.
        self.check_step("answer do ask 1 {plain x -> x; ask x k -> do ask x}", "deed", "do ask 1")
        self.check_step("answer do ask 1 {plain it -> it; ask it k -> k it}", "deed",
                        "(fun it -> answer it {plain it -> it; ask it k -> k it}) 1")

    def test_unanswered(self):
        self.assertEqual(step("do ask 1"), ("unanswered", "ask", NUM))
        self.assertEqual(step("1 + do ask (fun x -> x)"), ("unanswered", "ask", read_tree("fun x -> x")))
        self.assertEqual(step("answer do ask 1 {plain x -> x; tell x k -> 1}"), ("unanswered", "ask", NUM))
        self.assertEqual(step("answer 1 + 1 {plain x -> do ask x}"), ("op", read_tree("answer 2 {plain x -> do ask x}")))
        self.assertEqual(step("do ask 1 + 1 2"), ("unanswered", "ask", NUM))

    def test_values(self):
        for text in ("1", "fun x -> 1 2", "No()", "Two(fun x -> x, One((-1)))"):
            self.assertEqual(step(text), ("value", read_tree(text)))
            self.assertIs(is_value(read_tree(text)), True)
            self.assertIsNone(next_place(read_tree(text)))
        for text in ("1 + 2", "One(1 2)", "let x = 1 in x", "x", "fun x -> y", "One(x)", "do ask 1"):
            self.assertIs(is_value(read_tree(text)), False)
        for value in NO_TREES + NO_PROGRAMS:
            self.assertIs(is_value(value), False)

    def test_shown_values(self):
        for text, shown in [("1", 1), ("(-7)", -7), ("fun x -> x", "fun"), ("No()", ("No", ())),
                            ("Two(fun x -> x, One(3))", ("Two", ("fun", ("One", (3,)))))]:
            self.assertEqual(shown_value(read_tree(text)), shown)
        for value in NO_TREES + NO_PROGRAMS + [read_tree("1 + 2"), read_tree("One(1 + 2)"), read_tree("do ask 1")]:
            checked(self, InvalidValue, shown_value, value)

    def test_next_places(self):
        for text, place in [
                ("1 2", ()), ("(1 2) 3", (0,)), ("1 (2 3)", (1,)), ("1 + (2 + 3)", (1,)), ("let x = 1 2 in 3 4", (0,)),
                ("let x = 1 in 3 4", ()), ("rec f x = 1 2 in 3 4", ()), ("match 1 2 {_ -> 3 4}", (0,)), ("match 1 {_ -> 3 4}", ()),
                ("Two(1, Two(2 3, 4 5))", (1, 0)), ("do ask (1 2)", (0,)), ("do ask 1", ()), ("answer 1 2 {plain x -> 3 4}", (0,)),
                ("answer 1 {plain x -> 3 4}", ()), ("fun x -> 1 2", None), ("(1 2) + (3 4)", (0,)), (A, (0, 0)), (C, ())]:
            self.assertEqual(next_place(read_tree(text)), place, text)

    def test_answerers(self):
        for text, path in [
                (A, ()), (B, ()), (C, None), ("1", None), ("1 + 2", None), ("do ask 1", None),
                ("1 + (answer do ask 2 {plain x -> x; ask x k -> 1})", (1,)),
                ("answer answer do ask 1 {plain x -> x; tell x k -> 2} {plain x -> x; ask x k -> k}", ()),
                ("answer answer do ask 1 {plain x -> x; ask x k -> 2} {plain x -> x; ask x k -> k}", (0,)),
                ("answer do ask 1 {plain x -> x; tell x k -> 2}", None), ("answer do ask (1 + 1) {plain x -> x; ask x k -> 2}", None)]:
            self.assertEqual(answerer_for(read_tree(text)), path, text)

    def test_bounds_of_steps(self):
        twice = ("fun", "x", ("call", X, X))
        self.assertEqual(tree_size(step_of(("call", twice, sized(1499)))[2]), 2999)
        checked(self, (TooMany, {"limit": 3000}), step_of, ("call", ("fun", "x", ("shape", "Row", (X, X, X, X))), sized(750)))
        self.assertEqual(tree_size(step_of(("call", ("fun", "x", ("shape", "Row", (X, X, ("num", 1)))), sized(1499)))[2]), 3000)
        checked(self, (TooMany, {"limit": 3000}), step_of, ("call", ("fun", "x", ("shape", "Row", (X, X, NUM, NUM))), sized(1499)))
        deeper = ("fun", "x", ("fun", "y", X))
        self.assertEqual(tree_depth(step_of(("call", deeper, nested(118)))[2]), 120)
        self.assertEqual(tree_depth(step_of(("shape", "One", (("call", deeper, nested(117)),)))[2]), 120)
        checked(self, (TooMany, {"limit": 120}), step_of, ("call", ("fun", "x", ("fun", "y", ("fun", "z", X))), nested(118)))
        both = ("fun", "x", ("fun", "y", ("fun", "z", ("shape", "Row", (X, X, X, X)))))
        checked(self, (TooMany, {"limit": 3000}), step_of, ("call", both, nested(110, sized(800))))

    def test_a_great_many_uses(self):
        rows = ("shape", "Row", (X, X, X, X))
        for _ in range(4):
            rows = ("shape", "Row", (rows,) * 4)
        checked(self, (TooMany, {"limit": 3000}), step_of, ("call", ("fun", "x", rows), sized(1000)))

    def test_wrong_arguments(self):
        for action in (next_place, step_of, answerer_for):
            for value in NO_TREES:
                checked(self, InvalidTree, action, value)
            for value in NO_PROGRAMS:
                checked(self, InvalidProgram, action, value)

    def test_deepest_programs(self):
        deep = ("op", "+", NUM, NUM)
        for _ in range(118):
            deep = ("match", deep, ((("bind", "x"), X),))
        self.assertEqual(next_place(deep), (0,) * 118)
        self.assertEqual(step_of(deep)[1], "op")
        value = NUM
        for _ in range(119):
            value = ("shape", "One", (value,))
        self.assertIs(is_value(value), True)
        self.assertEqual(step_of(("let", "x", value[2][0], X))[2], value[2][0])
        shown = shown_value(value)
        for _ in range(119):
            shown = shown[1][0]
        self.assertEqual(shown, 1)


class GuaranteesTest(unittest.TestCase):

    def test_each_program_does_a_step_or_is_at_an_end(self):
        for tree in programs(12, 300):
            before = copy.deepcopy(tree)
            told = step_of(tree)
            self.assertEqual(tree, before)
            if told[0] == "step":
                self.assertIs(is_program(told[2]), True)
                self.assertIn(told[1], ("call", "let", "rec", "match", "op", "plain", "deed"))
                word = part_at(tree, next_place(tree))[0]
                self.assertEqual(told[1], {"answer": "plain", "do": "deed"}.get(word, word))
                self.assertEqual(answerer_for(tree) is not None, told[1] == "deed")
            elif told[0] == "value":
                self.assertEqual(told[1], tree)
                self.assertIsNone(next_place(tree))
            elif told[0] == "unanswered":
                self.assertEqual(part_at(tree, next_place(tree)), ("do", told[1], told[2]))
                self.assertIsNone(answerer_for(tree))
            else:
                self.assertEqual(told[0], "stuck")
                self.assertIn(told[1], ("call", "match", "number", "great"))

    def test_alike_programs_do_alike_steps(self):
        for tree in programs(13, 200):
            one, other = tree, with_plain_names(tree)
            for _ in range(6):
                told, more = step_of(one), step_of(other)
                self.assertEqual(told[:2] if told[0] != "value" else told[0], more[:2] if more[0] != "value" else more[0])
                if told[0] != "step":
                    break
                self.assertIs(are_alike(told[2], more[2]), True)
                one, other = told[2], more[2]
