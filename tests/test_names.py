"""[6], [7], [54]: free and bound names, programs, values put for names, plain names, alike trees."""

import copy
import unittest

from nearanswer.errors import InvalidName, InvalidTree, InvalidValue
from nearanswer.names import are_alike, bound_names, free_names, is_program, put_for, with_plain_names
from nearanswer.texts import read_tree
from nearanswer.trees import tree_depth, tree_size
from making import ANY, BARRED, NO_NAMES, NO_PROGRAMS, NO_TREES, NUM, X, checked, nested, programs, sized, trees


def lumps():
    """The names "a" to "z", "aa" and so on, told in another way than the package does."""
    letters = "abcdefghijklmnopqrstuvwxyz"
    yield from letters
    for first in letters:
        for second in letters:
            yield first + second
    for first in letters:
        for second in letters:
            for third in letters:
                yield first + second + third


def many_names(many):
    """A match of which one row binds so many names."""
    names = []
    for name in lumps():
        if name not in BARRED:
            names.append("q" + name)
    return ("match", NUM, ((("shapeis", "Row", nest([("bind", name) for name in names[:many]])), NUM),))


def nest(patterns):
    while len(patterns) > 4:
        groups = [patterns[at:at + 4] for at in range(0, len(patterns), 4)]
        patterns = [("shapeis", "Row", tuple(group)) for group in groups]
    return tuple(patterns)


class NamesTest(unittest.TestCase):

    def test_free_names(self):
        for text, free in [
                ("x", ["x"]), ("fun x -> x y", ["y"]), ("let x = x in x", ["x"]), ("let x = 1 in x", []),
                ("rec f x = f x y in f x", ["x", "y"]), ("rec f x = 1 in x", ["x"]), ("rec f x = f in f", []),
                ("match x {x -> x; Two(a, b) -> a b x; _ -> y}", ["x", "y"]), ("match 1 {1 -> x; x -> x}", ["x"]),
                ("answer x {plain x -> x k; ask e k -> e k x}", ["k", "x"]),
                ("answer 1 {plain x -> x; ask x k -> x k; tell y k -> x y}", ["x"]), ("do ask x", ["x"]),
                ("z + (fun z -> z a)", ["a", "z"]), ("fun x -> fun x -> x", [])]:
            self.assertEqual(free_names(read_tree(text)), free, text)

    def test_bound_names(self):
        for text, bound in [
                ("x", []), ("fun x -> fun x -> y", ["x", "x"]), ("let x = fun y -> y in fun z -> z", ["x", "y", "z"]),
                ("rec f x = fun a -> a in fun b -> b", ["f", "x", "a", "b"]),
                ("match fun c -> c {Two(b, Two(a, _)) -> fun d -> d; 1 -> 1; e -> e}", ["c", "b", "a", "d", "e"]),
                ("answer fun x -> x {plain p -> fun a -> a; ask e k -> fun b -> b; tell k e -> 1}",
                 ["x", "p", "a", "e", "k", "b", "k", "e"]), ("f (fun a -> a) (fun b -> b)", ["a", "b"])]:
            self.assertEqual(bound_names(read_tree(text)), bound, text)

    def test_programs(self):
        for tree in programs(2, 60):
            self.assertIs(is_program(tree), True)
            self.assertEqual(free_names(tree), [])
        for tree in NO_PROGRAMS:
            self.assertIs(is_program(tree), False, tree)
        for value in NO_TREES:
            self.assertIs(is_program(value), False, value)

    def test_put_for(self):
        one = ("shape", "One", (("num", 7),))
        for text, behind in [
                ("x", "One(7)"), ("y", "y"), ("fun x -> x", "fun x -> x"), ("fun y -> x", "fun y -> One(7)"),
                ("let x = x in x", "let x = One(7) in x"), ("rec x y = x in x", "rec x y = x in x"),
                ("rec f x = x in x", "rec f x = x in One(7)"), ("match x {x -> x; y -> x}", "match One(7) {x -> x; y -> One(7)}"),
                ("answer x {plain x -> x; ask x k -> x; tell y x -> x; pick y k -> x}",
                 "answer One(7) {plain x -> x; ask x k -> x; tell y x -> x; pick y k -> One(7)}"),
                ("do x (x + x) * x", "do x (One(7) + One(7)) * One(7)")]:
            self.assertEqual(put_for(read_tree(text), "x", one), read_tree(behind), text)

    def test_put_for_bounds(self):
        value = sized(100)
        tree = ("shape", "Row", tuple(("shape", "Row", (X,) * 4) for _ in range(4)))
        self.assertEqual(tree_size(put_for(tree, "x", value)), 16 * 100 + 5)
        wide = ("shape", "Row", (tree, tree))
        checked(self, InvalidTree, put_for, wide, "x", value)
        self.assertEqual(tree_size(put_for(("call", X, NUM), "x", sized(2998))), 3000)
        checked(self, InvalidTree, put_for, ("call", X, NUM), "x", sized(2999))
        self.assertEqual(tree_depth(put_for(("fun", "y", X), "x", nested(118))), 120)
        checked(self, InvalidTree, put_for, ("fun", "y", X), "x", nested(119))

    def test_put_for_errors(self):
        for value in NO_TREES:
            checked(self, InvalidTree, put_for, value, None, None)
        for name in NO_NAMES:
            checked(self, InvalidName, put_for, X, name, None)
        for value in NO_TREES + NO_PROGRAMS + [("call", NUM, NUM), ("shape", "One", (("do", "ask", NUM),)), ("fun", "x", ("name", "y"))]:
            checked(self, InvalidValue, put_for, X, "x", value)

    def test_plain_names(self):
        for text, plain in [
                ("fun x -> x", "fun a -> a"), ("fun x -> a x", "fun b -> a b"), ("fun b -> fun b -> b", "fun a -> fun b -> b"),
                ("let y = fun x -> x in y", "let a = fun b -> b in a"), ("rec g z = g z in g", "rec a b = a b in a"),
                ("match 1 {Two(x, y) -> x y; y -> y}", "match 1 {Two(a, b) -> a b; c -> c}"),
                ("answer do ask 1 {plain p -> p; ask e k -> k e}", "answer do ask 1 {plain a -> a; ask b c -> c b}"),
                ("let x = x in x", "let a = x in a"), ("rec f x = let x = x in f x in f x", "rec a b = let c = b in a c in a x"),
                ("match y {y -> y; x -> y}", "match y {a -> a; b -> y}")]:
            self.assertEqual(with_plain_names(read_tree(text)), read_tree(plain), text)

    def test_plain_names_in_order(self):
        tree = many_names(720)
        told = [name for name in lumps() if name not in BARRED][:720]
        self.assertEqual(bound_names(with_plain_names(tree)), told)
        self.assertEqual(told[24:30], ["y", "z", "aa", "ab", "ac", "ad"])
        self.assertNotIn("do", told)
        self.assertNotIn("in", told)
        self.assertIn("zz", told)
        self.assertEqual(told[told.index("zz") + 1], "aaa")

    def test_barred_words_are_left_out(self):
        told = bound_names(with_plain_names(many_names(1500)))
        self.assertEqual(len(set(told)), 1500)
        self.assertFalse(set(told) & set(BARRED))
        self.assertEqual(told, [name for name in lumps() if name not in BARRED][:1500])

    def test_free_names_are_left_out(self):
        tree = ("call", ("name", "b"), ("fun", "x", ("fun", "y", ("call", ("name", "y"), ("name", "aa")))))
        self.assertEqual(bound_names(with_plain_names(tree)), ["a", "c"])
        tree = ("call", many_names(30), ("name", "aa"))
        self.assertEqual(bound_names(with_plain_names(tree))[24:], ["y", "z", "ab", "ac", "ad", "ae"])

    def test_plain_trees_are_alike(self):
        for tree in trees(3, 120):
            plain = with_plain_names(tree)
            self.assertEqual(free_names(plain), free_names(tree))
            self.assertEqual(with_plain_names(plain), plain)
            self.assertIs(are_alike(tree, plain), True)
            self.assertEqual(len(set(bound_names(plain))), len(bound_names(tree)))
            self.assertEqual(tree_size(plain), tree_size(tree))

    def test_alike(self):
        for one, other, told in [
                ("fun x -> x", "fun y -> y", True), ("fun x -> y", "fun y -> y", False), ("x", "y", False), ("x", "x", True),
                ("fun x -> fun y -> x", "fun y -> fun x -> y", True), ("fun x -> fun y -> x", "fun x -> fun y -> y", False),
                ("fun x -> fun x -> x", "fun x -> fun y -> y", True), ("fun x -> x + 1", "fun x -> x + 2", False),
                ("match 1 {x -> x}", "match 1 {y -> y}", True), ("match 1 {x -> 1}", "match 1 {_ -> 1}", False),
                ("answer 1 {plain x -> x; ask x k -> k x}", "answer 1 {plain a -> a; ask b c -> c b}", True),
                ("answer 1 {plain x -> x; ask x k -> k x}", "answer 1 {plain a -> a; tell b c -> c b}", False),
                ("rec f x = f x in f", "rec x f = x f in x", True), ("rec f x = f x in f", "rec f x = x f in f", False)]:
            self.assertIs(are_alike(read_tree(one), read_tree(other)), told, (one, other))

    def test_deepest_trees(self):
        self.assertIs(are_alike(nested(119), nested(119)), True)
        deep = X
        for _ in range(119):
            deep = ("match", deep, ((("bind", "x"), X),))
        self.assertIs(are_alike(deep, with_plain_names(deep)), True)
        self.assertEqual(len(bound_names(deep)), 119)
        body = X
        for _ in range(119):
            body = ("match", NUM, ((("bind", "x"), body),))
        self.assertIs(are_alike(body, with_plain_names(body)), True)
        self.assertEqual(put_for(body, "x", NUM), body)
        row = X
        for _ in range(119):
            row = ("answer", NUM, ("x", NUM), (("ask", "x", "k", row),))
        self.assertIs(are_alike(row, with_plain_names(row)), True)

    def test_wrong_trees(self):
        for value in NO_TREES:
            for action in (free_names, bound_names, with_plain_names):
                checked(self, InvalidTree, action, value)
            checked(self, InvalidTree, are_alike, value, None)
            checked(self, InvalidTree, are_alike, X, value)

    def test_nothing_is_modified(self):
        for tree in trees(4, 20):
            before = copy.deepcopy(tree)
            with_plain_names(tree)
            put_for(tree, "x", NUM)
            free_names(tree).append("x")
            bound_names(tree).append("x")
            self.assertEqual(tree, before)
        self.assertEqual(bound_names(("match", NUM, ((ANY, NUM),))), [])
