"""[20], [63]: flat trees and flat forms; of the guarantees that of flat forms."""

import copy
import unittest

from kinded import kinded_programs
from making import NO_TREES, NUM, A, B, C, X, checked, error_of, programs, sized, trees
from nearanswer.errors import InvalidTree, TooMany
from nearanswer.flatforms import flat_form, is_flat
from nearanswer.names import are_alike, free_names, is_program, with_plain_names
from nearanswer.runs import deeds_of, run_of, words_of
from nearanswer.texts import read_tree, tree_text
from nearanswer.trees import is_tree, tree_depth, tree_size


class FlatTest(unittest.TestCase):

    def test_flat_trees(self):
        for text in ["1", "x", "fun x -> x", "fun x -> let y = x x in y", "f x", "f 1", "1 + x", "do ask 1", "Two(1, x)", "No()", "match x {1 -> f x; _ -> 2}",
                     "match 1 {x -> let y = f x in y}", "answer f x {plain x -> f x; ask x k -> k x}", "let x = f y in x", "let x = fun y -> f y in x",
                     "let x = match y {_ -> 1} in let z = 1 in x z", "rec f x = f x in f 1", "rec f x = let y = f x in y in rec g x = x in g 1",
                     "let x = answer let y = 1 in y {plain x -> x} in x", "answer rec f x = x in f 1 {plain x -> let y = x in y}"]:
            self.assertIs(is_flat(read_tree(text)), True, text)
        for text in ["f (g x)", "f x y", "1 + (2 + x)", "do ask (f x)", "Two(1, No())", "Two(fun x -> x, 1)", "match f x {_ -> 1}", "match No() {_ -> 1}",
                     "match x {_ -> f x y}", "fun x -> f x y", "let x = let y = 1 in y in x", "let x = rec f x = x in f in x", "let x = f x y in x",
                     "let x = 1 in f x y", "rec f x = f x x in f", "rec f x = x in f x x", "answer f x y {plain x -> x}", "answer x {plain x -> f x y}",
                     "answer x {plain x -> x; ask x k -> k x x}", "f (fun x -> x)", "f (let x = 1 in x)", "1 + do ask 1", "fun x -> fun y -> f x y",
                     "let x = fun y -> f y y in x", "f (answer 1 {plain x -> x})"]:
            self.assertIs(is_flat(read_tree(text)), False, text)

    def test_flat_forms(self):
        for text, flat in [
                ("1", "1"), ("x", "x"), ("f x", "f x"), ("fun x -> x", "fun a -> a"), ("f x y", "let a = f x in a y"), ("f (g x)", "let a = g x in f a"),
                ("f (fun x -> x)", "let a = fun b -> b in f a"), ("Two(f 1, Two(g 2, 3))", "let a = f 1 in let b = g 2 in let c = Two(b, 3) in Two(a, c)"),
                ("match f x {_ -> f x y; z -> z}", "let a = f x in match a {_ -> let b = f x in b y; c -> c}"), ("do ask (1 + 2)", "let a = 1 + 2 in do ask a"),
                ("let x = let y = f 1 in y y in x", "let a = f 1 in let b = a a in b"), ("(let x = 1 in x) + (let x = 2 in x)", "let a = 1 in let b = 2 in a + b"),
                ("1 + (rec f x = f (x + 1) in f 2)", "rec a b = let c = b + 1 in a c in let d = a 2 in 1 + d"),
                ("let f = rec g x = g x in g in f 1", "rec a b = a b in let c = a in c 1"),
                ("answer g (h 1) {plain x -> x x x; ask x k -> k (k x)}",
                 "answer let a = h 1 in g a {plain b -> let c = b b in c b; ask d e -> let f = e d in e f}"),
                ("1 + (answer 2 {plain x -> x})", "let a = answer 2 {plain b -> b} in 1 + a"), ("let x = No() in x", "let a = No() in a"),
                ("(fun x -> x) 1", "let a = fun b -> b in a 1"), ("a (b c)", "let d = b c in a d"), ("f (match x {1 -> g (h 2)})", "let a = match x {1 -> let b = h 2 in g b} in f a"),
                ("(fun x -> f (x 1)) (let x = 2 in fun y -> x)", "let a = fun b -> let c = b 1 in f c in let d = 2 in let e = fun g -> d in a e")]:
            self.assertEqual(tree_text(flat_form(read_tree(text))), flat, text)

    def test_names_are_not_mistaken(self):
        # What is moved around other parts keeps its names apart from theirs.
        flat = flat_form(read_tree("(let x = 1 in x) + x"))
        self.assertEqual(tree_text(flat), "let a = 1 in a + x")
        self.assertEqual(tree_text(flat_form(read_tree("a + (let x = b in fun a -> a x)"))), "let c = b in let d = fun e -> e c in a + d")

    def test_all_trees(self):
        for tree in trees(70, 200, 4) + programs(71, 200, 4):
            if tree_size(tree) > 100:
                checked(self, (TooMany, {"limit": 100}), flat_form, tree)
                continue
            before = copy.deepcopy(tree)
            flat = flat_form(tree)
            self.assertEqual(tree, before)
            self.assertIs(is_tree(flat), True)
            self.assertIs(is_flat(flat), True)
            self.assertEqual(with_plain_names(flat), flat)
            self.assertEqual(free_names(flat), free_names(tree))
            self.assertEqual(flat_form(with_plain_names(tree)), flat)
            if tree_size(flat) <= 100:
                self.assertEqual(flat_form(flat), flat)
            self.assertEqual(is_flat(tree), are_alike(tree, flat))

    def test_bounds(self):
        def dos(size):
            tree = NUM
            for _ in range(size - 1):
                tree = ("do", "ask", tree)
            return tree
        flat = flat_form(dos(100))
        self.assertIs(is_flat(flat), True)
        self.assertEqual(tree_depth(flat), 100)
        checked(self, (TooMany, {"limit": 100}), flat_form, dos(101))
        self.assertIs(is_flat(flat_form(sized(100))), True)
        checked(self, (TooMany, {"limit": 100}), flat_form, sized(101))
        self.assertIs(is_flat(dos(120)), False)
        for deep in (("fun", "x", X), ("rec", "f", "x", X, X), ("let", "x", X, X), ("answer", X, ("x", X), ()), ("match", X, ((("bind", "x"), X),))):
            tree = deep
            while tree_size(tree) + tree_size(deep) < 100:
                tree = ("call", tree, deep)
            self.assertIs(is_flat(flat_form(tree)), True)

    def test_errors(self):
        for value in NO_TREES:
            checked(self, InvalidTree, is_flat, value)
            checked(self, InvalidTree, flat_form, value)


class GuaranteeTest(unittest.TestCase):

    def test_same_ends_and_deeds(self):
        seen = {}
        some = programs(72, 500, 4) + kinded_programs(73, 400, 4) + kinded_programs(74, 300, 3) + [read_tree(text) for text in (A, B, C)]
        for program in some:
            if tree_size(program) > 100:
                continue
            flat = flat_form(program)
            self.assertIs(is_program(flat), True)
            if error_of(run_of, program, 400) or error_of(run_of, flat, 400):
                continue
            end, _, _ = run_of(program, 400)
            flat_end, _, _ = run_of(flat, 400)
            if ("more",) in (end, flat_end):
                continue
            self.assertEqual(flat_end, end)
            self.assertEqual([deed[:2] for deed in deeds_of(flat, 400)], [deed[:2] for deed in deeds_of(program, 400)])
            words = [word for word in words_of(program, 400) if word != "let"]
            self.assertEqual([word for word in words_of(flat, 400) if word != "let"], words)
            seen[end[0]] = seen.get(end[0], 0) + 1
        self.assertGreater(min(seen.values()), 60)
