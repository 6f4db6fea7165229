"""[43] to [45], [82], and of [3] what is said of sure, quiet and silent trees: they are looked at with values put in."""

import random
import unittest

from making import A, ANY, NO_NAMES, NO_TREES, NUM, X, Maker, checked, nested, programs, trees
from nearanswer.errors import InvalidName, InvalidPattern, InvalidTree, TooMany
from nearanswer.names import free_names, is_program, put_for
from nearanswer.quiet import fit_seen, is_quiet, is_silent, is_sure, open_place
from nearanswer.rewriting import is_value, next_place
from nearanswer.runs import course_of, run_of, words_of
from nearanswer.testtrees import first_row
from nearanswer.texts import read_tree
from nearanswer.trees import all_paths, part_at, parts_of
from test_trees import NO_PATTERNS

VALUES = [NUM, ("num", 0), ("num", 2), ("shape", "Yes", ()), ("shape", "No", ()), ("shape", "Two", (NUM, ("num", 0))), ("shape", "Row", (("num", 2), ("shape", "End", ()))),
          ("shape", "One", (("num", 0),)), ("fun", "x", X), ("fun", "x", ("do", "ask", X)), ("fun", "it", ("answer", ("name", "it"), ("x", X), ()))]


def sure(tree):
    return tree[0] in ("num", "name", "fun") or tree[0] == "shape" and all(sure(part) for part in tree[2])


def quiet(tree):
    """[43], read from the left to the right."""
    if sure(tree):
        return True
    if tree[0] == "shape":
        return all(quiet(part) for part in tree[2])
    if tree[0] == "let":
        return quiet(tree[2]) and quiet(tree[3])
    if tree[0] == "rec":
        return quiet(tree[4])
    if tree[0] == "match":
        return quiet(tree[1]) and all(quiet(body) for _, body in tree[2]) and any(pattern[0] in ("any", "bind") for pattern, _ in tree[2])
    if tree[0] == "op":
        return tree[2][0] == tree[3][0] == "num" and run_of(tree, 1)[0][0] == "value"
    return tree[0] == "answer" and quiet(tree[1]) and quiet(tree[2][1])


def open_in(tree):
    """All calls and dos that stand open in a tree."""
    if tree[0] == "fun":
        return []
    parts = parts_of(tree)[1:] if tree[0] == "rec" else parts_of(tree)
    return ([tree] if tree[0] in ("call", "do") else []) + [one for part in parts for one in open_in(part)]


def closed(tree, value=NUM):
    """A program with a value for each free name of a sure tree within a tree, and all sure trees in it being values."""
    for name in free_names(tree):
        tree = put_for(tree, name, value)
    return tree


def with_values(chance, tree):
    for name in free_names(tree):
        tree = put_for(tree, name, chance.choice(VALUES))
    return tree


def fit(pattern, tree):
    """[45]: 2 for surely, 1 for maybe, 0 for not at all."""
    if pattern[0] in ("any", "bind"):
        return 2
    if tree[0] == "name":
        return 1
    if pattern[0] == "numis":
        return 2 if tree == ("num", pattern[1]) else 0
    if tree[0] != "shape" or (tree[1], len(tree[2])) != (pattern[1], len(pattern[2])):
        return 0
    return min([fit(inner, part) for inner, part in zip(pattern[2], tree[2])] + [2])


def sure_tree(maker, depth):
    roll = maker.chance.random()
    if depth == 0 or roll < 0.15:
        return maker.chance.choice([("num", maker.chance.choice([0, 1, 2])), ("name", maker.name()), ("name", maker.name()), ("fun", "x", maker.tree(1))])
    many = maker.chance.randrange(3)
    return ("shape", maker.tag(many), tuple(sure_tree(maker, depth - 1) for _ in range(many)))


def quiet_tree(maker, depth):
    """A tree that is quiet for the most part."""
    roll = maker.chance.randrange(8)
    if depth == 0 or roll == 0:
        return sure_tree(maker, 1)
    inner = [quiet_tree(maker, depth - 1) for _ in range(3)]
    name, other = maker.chance.sample(maker.names, 2)
    if roll == 1:
        return ("let", name, inner[0], inner[1])
    if roll == 2:
        return ("rec", name, other, maker.tree(2), inner[0])
    if roll == 3:
        return ("match", inner[0], ((maker.pattern(), inner[1]), (maker.chance.choice([ANY, ("bind", name), maker.pattern()]), inner[2])))
    if roll == 4:
        return ("op", maker.chance.choice("+-*<="), ("num", maker.chance.choice([3, 10 ** 12])), ("num", maker.number()))
    if roll == 5:
        return ("answer", inner[0], (name, inner[1]), (("ask", name, other, maker.tree(2)),))
    if roll == 6:
        return ("shape", "Two", tuple(inner[:2]))
    return maker.tree(1)


def some_trees(seed, many):
    maker = Maker(seed)
    return [quiet_tree(maker, 3) for _ in range(many)] + trees(seed + 1, many, 4) + programs(seed + 2, many, 4) + [sure_tree(maker, 3) for _ in range(many)]


class QuietTest(unittest.TestCase):

    def test_sure_and_quiet(self):
        seen = {}
        for tree in some_trees(430, 400):
            self.assertIs(is_sure(tree), sure(tree))
            self.assertIs(is_quiet(tree), quiet(tree))
            key = (tree[0], is_sure(tree), is_quiet(tree))
            seen[key] = seen.get(key, 0) + 1
        for word in ("let", "rec", "match", "op", "answer", "shape"):
            self.assertGreater(seen[(word, False, True)], 5, word)
            self.assertGreater(seen[(word, False, False)], 5, word)
        self.assertGreater(seen[("shape", True, True)], 50)

    def test_each_row_of_quiet_trees(self):
        for text, told in (("1 + 2", True), ("999999999999 + 2", False), ("1 < 2", True), ("x + 1", False), ("1 + No()", False), ("f x", False), ("do ask 1", False),
                           ("fun x -> do ask x", True), ("Two(1, x y)", False), ("Two(1 + 1, x)", True), ("let x = 1 in f x", False), ("let x = f 1 in x", False),
                           ("rec f x = f x in f", True), ("rec f x = x in f 1", False), ("match x {0 -> 1}", False), ("match x {0 -> 1; y -> 2}", True),
                           ("match x {_ -> 1; 0 -> f 1}", False), ("match f 1 {_ -> 1}", False), ("match x {Two(_, _) -> 1}", False), ("match x {Two(a, b) -> 1; _ -> a}", True),
                           ("answer 1 {plain x -> x}", True), ("answer 1 {plain x -> x; ask x k -> k x}", True), ("answer 1 {plain x -> x x}", False), ("answer f 1 {plain x -> x}", False)):
            self.assertIs(is_quiet(read_tree(text)), told, text)

    def test_values_put_for_the_free_names_of_quiet_and_sure_trees(self):
        chance = random.Random(433)
        many = 0
        for tree in some_trees(431, 500):
            if not is_quiet(tree):
                continue
            for _ in range(3):
                program = with_values(chance, tree)
                self.assertTrue(is_program(program))
                if is_sure(tree):
                    self.assertTrue(is_value(program))
                try:
                    self.assertEqual(run_of(program, 400)[0][0], "value")
                    self.assertNotIn("deed", words_of(program, 400))
                    many += 1
                except TooMany:
                    pass
        self.assertGreater(many, 1500)

    def test_silent(self):
        chance = random.Random(434)
        seen = set()
        for tree in some_trees(432, 400):
            for deed in ("ask", "pick", "other"):
                told = not any(one[0] == "call" or one[1] == deed for one in open_in(tree))
                self.assertIs(is_silent(tree, deed), told)
                seen.add((tree[0], told))
                if not told:
                    continue
                try:
                    course = course_of(with_values(chance, tree), 60)
                except TooMany:
                    continue
                for program in course:
                    place = next_place(program)
                    self.assertFalse(place is not None and part_at(program, place)[:2] == ("do", deed))
        for word in ("let", "rec", "match", "op", "answer", "shape", "do"):
            self.assertTrue({(word, True), (word, False)} <= seen, word)

    def test_what_stands_open(self):
        for text, told in (("do ask x", False), ("do tell x", True), ("do tell (do ask x)", False), ("do tell (f x)", False), ("fun x -> do ask x", True), ("fun x -> f x", True),
                           ("rec f x = f (do ask x) in f", True), ("rec f x = x in f 1", False), ("rec f x = x in do ask 1", False), ("match x {0 -> do ask 1}", False),
                           ("match x {0 -> f 1}", False), ("answer 1 {plain x -> do ask x}", False), ("answer 1 {plain x -> x; ask x k -> do ask x}", False),
                           ("answer 1 {plain x -> x; ask x k -> k x}", False), ("answer 1 {plain x -> x; ask x k -> fun y -> k y}", True), ("answer do tell 1 {plain x -> x; ask x k -> 1}", True),
                           ("Two(1, do ask 2)", False), ("1 + do ask 2", False), ("let ask = 1 in ask", True), ("rec ask f = f in ask", True), ("match 1 {ask -> ask}", True), ("do tell ask", True), ("let x = do ask 1 in x", False), ("let x = 1 in do ask x", False), ("x + y * 2", True)):
            self.assertIs(is_silent(read_tree(text), "ask"), told, text)

    def test_open_places(self):
        """The open place is the next place of the program in which each sure tree that can be worked out is a value."""
        many = 0
        for tree in some_trees(435, 400):
            told = open_place(tree)
            self.assertEqual(told is None, sure(tree))
            if told is None:
                continue
            self.assertIn(told, all_paths(tree))
            program = closed(tree)
            self.assertEqual(told, next_place(program))
            many += len(told) > 1
        self.assertGreater(many, 100)

    def test_small_open_places(self):
        for text, told in (("x y", ()), ("x (y z)", (1,)), ("(x y) (y z)", (0,)), ("let x = y in x z", ()), ("let x = f y in x", (0,)), ("rec f x = f x in f 1", ()),
                           ("Three(x, fun y -> y y, do ask (x + z))", (2, 0)), ("match f x {0 -> g 1}", (0,)), ("match x {0 -> g 1}", ()), ("answer x {plain y -> y y}", ()),
                           ("answer x + do ask Two(1, y) {plain y -> y; ask y k -> y}", (0, 1)), ("do ask x", ()), ("do ask (do tell x)", (0,)), ("x", None), ("Two(x, y)", None)):
            self.assertEqual(open_place(read_tree(text)), told, text)

    def test_fits(self):
        chance = random.Random(436)
        maker = Maker(437)
        seen = {}
        for _ in range(2500):
            tree, pattern = sure_tree(maker, 3), maker.pattern(3)
            told = fit_seen(pattern, tree)
            self.assertIs(told, (False, None, True)[fit(pattern, tree)])
            seen[told] = seen.get(told, 0) + 1
            for _ in range(3):
                value = with_values(chance, tree)
                if is_rows_size(pattern) and told is not None:
                    self.assertEqual(first_row((pattern,), value), 0 if told else None)
        self.assertTrue(all(seen[told] > 30 for told in (True, False, None)))

    def test_small_fits(self):
        two = ("shapeis", "Two", (("numis", 1), ("numis", 2)))
        for text, told in (("Two(1, 2)", True), ("Two(1, x)", None), ("Two(x, 3)", False), ("Two(x, y)", None), ("Two(1)", False), ("One(1, 2)", False), ("x", None), ("1", False), ("fun x -> x", False),
                           ("Two(fun x -> x, y)", False)):
            self.assertIs(fit_seen(two, read_tree(text)), told, text)
        for pattern in (ANY, ("bind", "x")):
            for text in ("x", "1", "fun x -> x", "Two(x, 1)"):
                self.assertIs(fit_seen(pattern, read_tree(text)), True)
        for text, told in (("1", True), ("2", False), ("x", None), ("fun x -> x", False), ("One()", False)):
            self.assertIs(fit_seen(("numis", 1), read_tree(text)), told)

    def test_great_trees(self):
        deep = nested(119)
        self.assertEqual((is_sure(deep), is_quiet(deep), is_silent(deep, "ask"), open_place(deep)), (True, True, True, None))
        tree = NUM
        for _ in range(119):
            tree = ("shape", "One", (tree,))
        self.assertEqual((is_sure(tree), is_quiet(tree)), (True, True))
        tree = X
        for _ in range(119):
            tree = ("do", "tell", tree)
        self.assertEqual((is_sure(tree), is_quiet(tree), is_silent(tree, "ask"), open_place(tree)), (False, False, True, (0,) * 118))

    def test_wrong_arguments(self):
        for value in NO_TREES:
            for action in (is_sure, is_quiet, open_place):
                checked(self, InvalidTree, action, value)
            checked(self, InvalidTree, is_silent, value, None)
            checked(self, InvalidTree, fit_seen, ANY, value)
        for value in NO_NAMES:
            checked(self, InvalidName, is_silent, NUM, value)
        for value in NO_PATTERNS:
            checked(self, InvalidPattern, fit_seen, value, None)
        for text in ("1 + 2", "f x", "do ask 1", "let x = 1 in x", "rec f x = x in f", "match x {_ -> 1}", A, "Two(1, 1 + 1)"):
            checked(self, InvalidTree, fit_seen, ANY, read_tree(text))


def is_rows_size(pattern):
    return len(str(pattern)) < 300


if __name__ == "__main__":
    unittest.main()
