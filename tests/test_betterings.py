"""[46], [47], [83], and of [3] what is said of betterings: what they make of programs is shown alike, in no more steps."""

import random
import unittest

from answerers import answerer_programs
from bettermodel import alike_places, behind, candidates, pairs, shared
from kinded import kinded_programs
from lasting import last_programs
from making import ANY, NO_NAMES, NO_TREES, NUM, A, B, C, X, Maker, checked, nested, programs, size_of, sized, trees
from nearanswer.betterings import all_betterings, bettered, is_bettering
from nearanswer.errors import InvalidBettering, InvalidTree, TooMany
from nearanswer.names import free_names, is_program
from nearanswer.shownalike import shown_by
from nearanswer.texts import read_tree, tree_text
from nearanswer.trees import all_paths, part_at, tree_depth, tree_size
from test_quiet import quiet_tree, sure_tree

# The word, what stands behind it, the text of a tree, and the text of what it becomes, or None.
ROWS = [
    ("call", (), "(fun x -> x + 1) 2", "2 + 1"), ("call", (), "(fun x -> x) y", "y"), ("call", (), "(fun x -> x x) (fun y -> z)", "(fun y -> z) (fun y -> z)"),
    ("call", (), "(fun x -> x) (1 + 1)", None), ("call", (), "f 1", None), ("call", (), "(fun x -> fun y -> x) y", None), ("call", (), "(fun x -> x) x", None),
    ("call", (), "(fun x -> 1) x", None), ("call", (), "(fun x -> fun x -> x) y", "fun x -> x"), ("call", (), "(fun x -> fun y -> 1) y", "fun y -> 1"),
    ("call", (), "(rec f x = x in f) 1", None), ("call", (), "(fun x -> x + (fun x -> x) x) 7", "7 + (fun x -> x) 7"),
    ("call", (), "(fun x -> rec y z = x in y) y", None), ("call", (), "(fun x -> rec z y = x in z) y", None), ("call", (), "(fun x -> rec z y = 1 in x) y", "rec z y = 1 in y"),
    ("call", (), "(fun x -> answer x {plain y -> y; ask z k -> k}) y", "answer y {plain y -> y; ask z k -> k}"), ("call", (), "(fun x -> answer 1 {plain y -> x}) y", None),
    ("call", (), "(fun x -> answer 1 {plain z -> 1; ask y k -> x}) y", None), ("call", (), "(fun x -> answer 1 {plain z -> 1; ask k y -> x}) y", None),
    ("call", (), "(fun x -> let y = x in 1) y", "let y = y in 1"), ("call", (), "(fun x -> match x {y -> y}) y", "match y {y -> y}"), ("call", (), "(fun x -> match 1 {Two(y, _) -> x}) y", None),
    ("let", (), "let x = 2 in x + x", "2 + 2"), ("let", (), "let x = 1 + 1 in x", None), ("let", (), "let x = y in fun y -> x", None), ("let", (), "let x = x in 1", None),
    ("let", (), "let x = fun y -> z in fun z -> x", None), ("let", (), "let x = fun y -> z in fun y -> x", "fun y -> fun y -> z"), ("let", (), "let x = y in match 1 {y -> y}", "match 1 {y -> y}"),
    ("let", (), "let x = y in fun y -> fun x -> 1", "fun y -> fun x -> 1"), ("let", (), "let ask = y in fun y -> do ask 1", "fun y -> do ask 1"),
    ("let", (), "let x = y in fun y -> let x = 1 in x", "fun y -> let x = 1 in x"), ("let", (), "let x = Two(y, 1) in x", "Two(y, 1)"), ("let", (), "let x = Two(y, 1 + 1) in x", None), ("let", (), "fun x -> x", None), ("let", (), "rec x y = 1 in x", None),
    ("plain", (), "answer 1 {plain x -> x + 1; ask x k -> k x}", "1 + 1"), ("plain", (), "answer 1 + 1 {plain x -> x}", None), ("plain", (), "answer x {plain x -> 1}", None),
    ("plain", (), "answer y {plain x -> fun y -> x}", None), ("plain", (), "answer Two(y, y) {plain x -> x}", "Two(y, y)"), ("plain", (), "let x = 1 in x", None),
    ("fold", (), "1 + 2", "3"), ("fold", (), "1 < 2", "Yes()"), ("fold", (), "2 = 3", "No()"), ("fold", (), "2 = 2", "Yes()"), ("fold", (), "1 - 2", "(-1)"), ("fold", (), "2 * 3", "6"),
    ("fold", (), "999999999999 + 1", "1000000000000"), ("fold", (), "999999999999 + 2", None), ("fold", (), "1 + x", None), ("fold", (), "x + 1", None), ("fold", (), "1 + No()", None),
    ("nought", (), "x + y + 0", "x + y"), ("nought", (), "x * y - 0", "x * y"), ("nought", (), "(x - y) * 1", "x - y"), ("nought", (), "0 + x * y", "x * y"), ("nought", (), "1 * (x - y)", "x - y"),
    ("nought", (), "x + 0", None), ("nought", (), "(x < y) + 0", None), ("nought", (), "(x = y) * 1", None), ("nought", (), "0 - (x + y)", None), ("nought", (), "(x + y) * 0", None),
    ("nought", (), "x + y + 1", None), ("nought", (), "x * y = 0", None), ("nought", (), "0 * (x + y)", None), ("nought", (), "0 + (x < y)", None), ("nought", (), "1 + 0", None),
    ("nought", (), "1 + 2 + 0", "1 + 2"), ("nought", (), "1 * x", None), ("nought", (), "(x + y) * 1 < 1", None), ("nought", (), "1 - (x + y)", None), ("nought", (), "x * y + (0 + 0)", None),
    ("drop", (), "let x = 1 + 1 in 2", "2"), ("drop", (), "let x = f 1 in 2", None), ("drop", (), "let x = 1 in x", None), ("drop", (), "let x = x in y", "y"), ("drop", (), "let x = 1 in fun x -> x", "fun x -> x"),
    ("drop", (), "rec f x = f x in 1", "1"), ("drop", (), "rec f x = 1 in f", None), ("drop", (), "rec f x = g 1 in fun f -> f", "fun f -> f"), ("drop", (), "rec f x = 1 in x", "x"), ("drop", (), "fun x -> 1", None),
    ("drop", (), "let x = y + 1 in 2", None), ("drop", (), "let x = do ask 1 in 2", None),
    ("pick", (), "match Two(1, y) {Two(2, a) -> 0; Two(b, a) -> a + b}", "y + 1"), ("pick", (), "match x {0 -> 1; _ -> 2}", None), ("pick", (), "match 1 {0 -> 1}", None),
    ("pick", (), "match 1 + 1 {_ -> 1}", None), ("pick", (), "match y {x -> fun y -> x}", None), ("pick", (), "match x {x -> 1}", None), ("pick", (), "match Two(a, b) {Two(b, c) -> 1}", None),
    ("pick", (), "match Two(a, b) {Two(c, d) -> c + d}", "a + b"), ("pick", (), "match Two(1, x) {Two(1, 2) -> 3; _ -> 4}", None), ("pick", (), "match Two(2, x) {Two(1, 2) -> 3; _ -> 4}", "4"),
    ("pick", (), "match x {_ -> 3}", "3"), ("pick", (), "match x {y -> y + y; 0 -> 1}", "x + x"), ("pick", (), "match Two(x, 1) {One(y) -> 1; 0 -> 2; Two(_, 1) -> x}", "x"), ("pick", (), "let x = 1 in x", None),
    ("unfit", (0,), "match 1 {0 -> 5; x -> 6}", "match 1 {x -> 6}"), ("unfit", (1,), "match 1 {0 -> 5; x -> 6}", None), ("unfit", (2,), "match 1 {0 -> 5; x -> 6}", None), ("unfit", (0,), "match 1 {0 -> 5}", None),
    ("unfit", (0,), "match x {0 -> 1; _ -> 2}", None), ("unfit", (0,), "match Two(x, 1) {Two(_, 2) -> 1; _ -> 2}", "match Two(x, 1) {_ -> 2}"), ("unfit", (1,), "match 1 {0 -> 5; 2 -> 6}", "match 1 {0 -> 5}"),
    ("unfit", (0,), "match 1 + y {0 -> 1; Two() -> 2}", None), ("unfit", (1,), "match 1 + y {0 -> 1; Two() -> 2}", "match 1 + y {0 -> 1}"), ("unfit", (0,), "match 1 - y {x -> 1; _ -> 2}", None),
    ("unfit", (1,), "match 1 * y {x -> 1; _ -> 2}", None), ("unfit", (0,), "match x < y {0 -> 1; _ -> 2}", "match x < y {_ -> 2}"), ("unfit", (0,), "match x = y {Yes() -> 1; _ -> 2}", None),
    ("unfit", (0,), "match x = y {No() -> 1; _ -> 2}", None), ("unfit", (0,), "match x = y {Yes(_) -> 1; _ -> 2}", "match x = y {_ -> 2}"), ("unfit", (0,), "match x < y {Two() -> 1; _ -> 2}", "match x < y {_ -> 2}"),
    ("unfit", (1,), "match x < y {Two() -> 1; _ -> 2}", None), ("unfit", (0,), "match x < y {z -> 1; _ -> 2}", None), ("unfit", (0,), "match f 1 {0 -> 1; 1 -> 2}", None), ("unfit", (0,), "match fun x -> x {0 -> 1; _ -> 2}", "match fun x -> x {_ -> 2}"),
    ("unfit", (0,), "match Two(1 + 1) {0 -> 1; _ -> 2}", None), ("unfit", (0,), "answer 1 {plain x -> x; ask x k -> k}", None),
    ("idle", (0,), "answer 7 {plain x -> x; tell x k -> k 1}", "answer 7 {plain x -> x}"), ("idle", (0,), "answer f 1 {plain x -> x; tell x k -> k 1}", None), ("idle", (1,), "answer 7 {plain x -> x; tell x k -> k 1}", None),
    ("idle", (0,), "answer do ask 1 {plain x -> x; tell x k -> 1; ask x k -> 2}", "answer do ask 1 {plain x -> x; ask x k -> 2}"), ("idle", (1,), "answer do ask 1 {plain x -> x; tell x k -> 1; ask x k -> 2}", None),
    ("idle", (0,), "answer fun x -> f (do tell 1) {plain x -> x; tell x k -> 1}", "answer fun x -> f (do tell 1) {plain x -> x}"), ("idle", (0,), "match 1 {0 -> 1; _ -> 2}", None),
    ("idle", (0,), "answer (answer do tell 1 {plain x -> x; tell x k -> 2}) {plain x -> x; tell x k -> 1}", None), ("idle", (0,), "answer 1 {plain x -> x}", None),
    ("calm", (), "answer f 1 {plain x -> x + 1}", "let x = f 1 in x + 1"), ("calm", (), "answer f 1 {plain x -> x; ask x k -> k x}", None), ("calm", (), "let x = 1 in x", None), ("calm", (), "answer x {plain x -> x}", "let x = x in x"),
    ("deed", (), A, "(fun it -> answer it + 2 {plain x -> x; ask x k -> k (x + 10)}) (1 + 10)"), ("deed", (), "answer do ask 1 {plain x -> x; tell x k -> k x}", None),
    ("deed", (), "answer do ask (1 + 1) {plain x -> x; ask x k -> 5}", None), ("deed", (), "answer f 1 + do ask 1 {plain x -> x; ask x k -> 5}", None), ("deed", (), "answer f + do ask 1 {plain x -> x; ask x k -> 5}", "5"),
    ("deed", (), "answer (answer do ask 1 {plain x -> x; ask x k -> 6}) {plain x -> x; ask x k -> 5}", None), ("deed", (), "answer (answer do ask 1 {plain x -> x; tell x k -> 6}) {plain x -> x; ask x k -> 5}", "5"),
    ("deed", (), "answer do ask it {plain x -> x; ask x k -> 5}", None), ("deed", (), "answer do ask 1 {plain x -> it; ask x k -> 5}", None), ("deed", (), "answer do ask 1 {plain x -> x; ask x k -> 5; tell x k -> it}", None),
    ("deed", (), "answer do ask 1 {plain it -> it; ask x k -> fun it -> x}", "fun it -> 1"), ("deed", (), "answer do ask y {plain x -> x; ask x k -> fun y -> x}", None), ("deed", (), "answer do ask y {plain x -> x; ask x k -> x}", "y"),
    ("deed", (), "answer do ask 1 + y {plain x -> x; ask x k -> fun y -> k}", None), ("deed", (), "answer do ask 1 + x {plain z -> z; ask x k -> k}", None), ("deed", (), "answer do ask k {plain z -> z; ask x k -> x}", None),
    ("deed", (), "answer do ask x {plain z -> z; ask x k -> 5}", None), ("deed", (), "answer do ask 1 + k {plain z -> z; ask x k -> 5}", None), ("deed", (), "answer 1 {plain x -> x; ask x k -> 5}", None),
    ("deed", (), "answer do ask (fun y -> z) {plain x -> x; ask x k -> Two(x, k)}", "Two(fun y -> z, fun it -> answer it {plain x -> x; ask x k -> Two(x, k)})"), ("deed", (), "do ask 1", None),
    ("out", (), "(let x = 1 + 1 in x) 2", "let x = 1 + 1 in x 2"), ("out", (), "f (let x = y in x)", "let x = y in f x"), ("out", (), "f 1 (let x = y in x)", None), ("out", (), "x + (let x = 1 in x)", None),
    ("out", (), "(let x = 1 in x) x", None), ("out", (), "(let x = x in x) + y", "let x = x in x + y"), ("out", (), "Three(1, let x = f 1 in x, g 2)", "let x = f 1 in Three(1, x, g 2)"),
    ("out", (), "Two(1 + 1, let x = 1 in x)", None), ("out", (), "Two(x, let x = 1 in x)", None), ("out", (), "Two(let x = 1 in x, x)", None), ("out", (), "match (let x = 1 in x) {_ -> x}", None),
    ("out", (), "match (let x = 1 in x) {x -> x}", "let x = 1 in match x {x -> x}"), ("out", (), "match y {_ -> let x = 1 in x}", None), ("out", (), "do ask (rec f x = x in f)", "rec f x = x in do ask f"),
    ("out", (), "let y = (let x = 1 in x) in x", None), ("out", (), "let x = (let x = 1 in x) in x", "let x = 1 in let x = x in x"), ("out", (), "let y = 1 in let x = 2 in x", None),
    ("out", (), "let y = (rec x z = z in x 1) in y", "rec x z = z in let y = x 1 in y"), ("out", (), "let y = (rec x z = z in x 1) in x", None), ("out", (), "(rec f x = x in f) (rec f x = x in f)", "rec f x = x in f (rec f x = x in f)"),
    ("out", (), "answer (rec f x = x in f 1) {plain y -> y; ask f k -> f; tell k f -> f}", "rec f x = x in answer f 1 {plain y -> y; ask f k -> f; tell k f -> f}"), ("out", (), "answer (let x = 1 in x) {plain y -> y}", None),
    ("out", (), "answer (rec f x = x in f 1) {plain y -> f}", None), ("out", (), "answer (rec f x = x in f 1) {plain f -> f; ask x k -> f}", None), ("out", (), "answer (rec f x = x in f 1) {plain f -> f}", "rec f x = x in answer f 1 {plain f -> f}"),
    ("out", (), "fun y -> let x = 1 in x", None), ("out", (), "rec g y = (let x = 1 in x) in g", None), ("out", (), "rec g y = 1 in let x = 1 in x", None), ("out", (), "let y = do ask (let x = 1 in x) in y", None), ("out", (), "f x", None),
]
SHARES = [
    ("Two(3 * 4, 3 * 4)", "z", ((0,), (1,)), "let z = 3 * 4 in Two(z, z)"), ("Three(3 * 4, 3 * 4, 3 * 4)", "z", ((0,), (2,)), "let z = 3 * 4 in Three(z, 3 * 4, z)"),
    ("Three(3 * 4, 3 * 4, z)", "z", ((0,), (1,)), None), ("Three(3 * 4, 3 * 4, fun z -> 1)", "z", ((0,), (1,)), None), ("Three(3 * 4, 3 * 4, fun y -> 1)", "z", ((0,), (1,)), "let z = 3 * 4 in Three(z, z, fun y -> 1)"),
    ("Two(3 * 4, 3 * 4)", "z", ((1,), (0,)), None), ("Two(3 * 4, 3 * 4)", "z", ((0,), (0,)), None), ("Two(3 * 4, 3 * 4)", "z", ((0,),), None), ("Two(3 * 4, 3 * 4)", "z", ((0,), (2,)), None), ("Two(3 * 4, 3 * 4)", "z", (), None),
    ("Two(3 * 4, 4 * 3)", "z", ((0,), (1,)), None), ("Two(f 1, f 1)", "z", ((0,), (1,)), None), ("Two(3, 3)", "z", ((0,), (1,)), None), ("Two(x, x)", "z", ((0,), (1,)), None),
    ("Two(One(x), One(x))", "z", ((0,), (1,)), "let z = One(x) in Two(z, z)"), ("Two(One(x), fun x -> One(x))", "z", ((0,), (1, 0)), None), ("Two(fun x -> One(x), fun x -> One(x))", "z", ((0, 0), (1, 0)), None),
    ("Two(fun x -> One(y), fun y -> One(x))", "z", ((0,), (1,)), None), ("Two(fun x -> One(x), fun x -> One(x))", "z", ((0,), (1,)), "let z = fun x -> One(x) in Two(z, z)"),
    ("Two(One(One(1)), One(One(1)))", "z", ((0,), (0, 0)), None), ("One(One(One(1)))", "z", ((), (0,)), None), ("Two(No(), No())", "z", ((0,), (1,)), "let z = No() in Two(z, z)"),
    ("match 1 {x -> One(x) + One(x); _ -> One(x)}", "z", ((1, 0), (1, 1)), None), ("match One(x) {y -> One(x); _ -> One(x)}", "z", ((0,), (1,), (2,)), "let z = One(x) in match z {y -> z; _ -> z}"),
    ("let x = One(x) in One(x)", "z", ((0,), (1,)), None), ("let y = One(x) in One(x)", "z", ((0,), (1,)), "let z = One(x) in let y = z in z"), ("rec f y = One(x) in One(x)", "z", ((0,), (1,)), "let z = One(x) in rec f y = z in z"),
    ("rec f x = One(x) in One(x)", "z", ((0,), (1,)), None), ("rec x f = One(x) in One(x)", "z", ((0,), (1,)), None), ("answer 1 {plain x -> One(k); ask x k -> One(k)}", "z", ((1,), (2,)), None),
    ("answer One(k) {plain x -> One(k); ask x k -> 1}", "z", ((0,), (1,)), "let z = One(k) in answer z {plain x -> z; ask x k -> 1}"), ("1 + 2 + (1 + 2)", "z", ((0,), (1,)), "let z = 1 + 2 in z + z"),
    ("Two(999999999999 * 2, 999999999999 * 2)", "z", ((0,), (1,)), None), ("Two(match x {_ -> 1}, match x {_ -> 1})", "z", ((0,), (1,)), "let z = match x {_ -> 1} in Two(z, z)"),
]
LEAVES = ("op", "*", ("num", 3), ("num", 4))


def row_of(many):
    """A tree with so many equal leaves, and their paths."""
    tree = leaves(many)
    return tree, tuple(path for path in all_paths(tree) if part_at(tree, path) == LEAVES)


def leaves(many):
    if many < 5:
        return LEAVES if many == 1 else ("shape", "Row", (LEAVES,) * many)
    share, more = divmod(many, 4)
    return ("shape", "Row", tuple(leaves(share + (at < more)) for at in range(4)))


def some_trees(seed, many):
    maker = Maker(seed)
    return trees(seed, many, 4) + programs(seed + 1, many, 4) + [quiet_tree(maker, 3) for _ in range(many)] + [bettering_tree(maker, 3) for _ in range(many)]


def bettering_tree(maker, depth):
    """A tree for which many betterings can be done, or nearly so."""
    if depth == 0 or maker.chance.random() < 0.1:
        return maker.tree(1)
    inner = [bettering_tree(maker, depth - 1) for _ in range(3)]
    name, other = maker.chance.sample(maker.names + ("it",), 2)
    kind = maker.chance.choice([0, 1, 1, 1, 2, 3, 3, 3, 4, 5, 6, 7, 8])
    if kind == 0:
        return ("call", ("fun", name, inner[0]), quiet_tree(maker, 1))
    if kind == 1:
        one = ("op", maker.chance.choice("++--**<="), X, maker.tree(1))
        return ("op", maker.chance.choice("+-*<"), *maker.chance.sample([("num", maker.chance.choice([0, 1])), one], 2))
    if kind == 2:
        return ("match", ("op", maker.chance.choice("+<="), X, NUM), ((maker.pattern(1), inner[0]), (("shapeis", maker.chance.choice(["Yes", "No"]), (ANY,) * maker.chance.randrange(2)), inner[1])))
    if kind == 3:
        name, other = maker.chance.choice([(name, other), ("v", "w"), ("v", "w")])
        one = ("op", "+", sure_tree(maker, 1), ("do", "ask", sure_tree(maker, 1)))
        return ("answer", one, ("x", inner[0]), (("ask", name, other, ("call", ("name", other), inner[1])), ("pick", "x", "k", inner[2])))
    if kind == 4:
        return ("op", "+", X, ("let", other, inner[0], inner[1]))
    if kind == 5:
        return ("answer", ("rec", name, other, inner[0], inner[1]), ("x", inner[2]), ())
    if kind == 6:
        return ("match", quiet_tree(maker, 2), ((maker.pattern(2), inner[0]), (maker.pattern(2), inner[1]), (ANY, inner[2])))
    if kind == 7:
        return ("shape", "Two", (inner[0], inner[0]))
    return ("let", name, inner[0], inner[1])


def shown(program):
    """The shown form of the end, ("more",) or ("great",), and how many steps were done."""
    try:
        return shown_by(program, "rewriting", 1500)
    except TooMany:
        return ("great",), None


class BetteringsTest(unittest.TestCase):

    def test_rows(self):
        for word, more, text, told in ROWS:
            tree = read_tree(text)
            self.assertIs(is_bettering(tree, (word, (), more)), told is not None, (word, text))
            if told is None:
                checked(self, InvalidBettering, bettered, tree, (word, (), more))
            else:
                self.assertEqual(tree_text(bettered(tree, (word, (), more))), told, (word, text))
            self.assertIs((word, (), more) in all_betterings(tree), told is not None, (word, text))
            around = ("fun", "y", ("let", "x", tree, X))
            self.assertIs(is_bettering(around, (word, (0, 0), more)), told is not None)
            if told is not None:
                self.assertEqual(bettered(around, (word, (0, 0), more)), ("fun", "y", ("let", "x", read_tree(told), X)))

    def test_shares(self):
        for text, name, paths, told in SHARES:
            tree, value = read_tree(text), ("share", (), (name, paths))
            self.assertIs(is_bettering(tree, value), told is not None, (text, paths))
            if told is None:
                checked(self, InvalidBettering, bettered, tree, value)
            else:
                self.assertEqual(tree_text(bettered(tree, value)), told)
            around = ("fun", "x", tree)
            self.assertIs(is_bettering(around, ("share", (0,), (name, paths))), told is not None)

    def test_shares_with_many_paths(self):
        for many in (2, 19, 20, 21, 30):
            tree, paths = row_of(many)
            self.assertEqual(len(paths), many)
            self.assertIs(is_bettering(tree, ("share", (), ("z", paths))), many <= 20)
        tree, paths = row_of(20)
        self.assertEqual(tree_size(bettered(tree, ("share", (), ("z", paths)))), tree_size(tree) - 40 + 4)

    def test_all_betterings(self):
        seen = {}
        for tree in some_trees(440, 120):
            if tree_size(tree) > 90:
                continue
            told = {value: behind(tree, value) for value in candidates(tree)}
            found = [value for value in told if told[value] is not None]
            self.assertEqual(all_betterings(tree), sorted(found), tree_text(tree))
            for value in told:
                key = (value[0], told[value] is not None)
                seen[key] = seen.get(key, 0) + 1
                self.assertIs(is_bettering(tree, value), told[value] is not None)
                if told[value] is not None:
                    self.assertEqual(bettered(tree, value), told[value])
                    self.assertTrue(set(free_names(told[value])) <= set(free_names(tree)))
        for word in "call calm deed drop fold idle let nought out pick plain unfit".split():
            self.assertGreater(seen[(word, True)], 8, word)

    def test_all_shares(self):
        seen = {True: 0, False: 0}
        for tree in some_trees(441, 60):
            if tree_size(tree) > 80:
                continue
            for path in all_paths(tree)[:12]:
                for paths in alike_places(part_at(tree, path)):
                    for places in pairs(paths):
                        for name in ("x", "z"):
                            told = shared(tree, path, name, places)
                            seen[told is not None] += 1
                            self.assertIs(is_bettering(tree, ("share", path, (name, places))), told is not None)
                            if told is not None:
                                self.assertEqual(bettered(tree, ("share", path, (name, places))), told)
        self.assertTrue(seen[True] > 80 and seen[False] > 80, seen)

    def some_programs(self):
        told = programs(442, 120, 4) + kinded_programs(443, 40, 5) + last_programs(444, 40, 4, 0.5) + answerer_programs() + [read_tree(text) for text in (A, B, C)]
        maker = Maker(445)
        told += [tree for tree in (bettering_tree(maker, 3) for _ in range(700)) if is_program(tree)]
        return [program for program in told if tree_size(program) <= 150]

    def test_programs_are_shown_alike_and_do_no_more_steps(self):
        ends, less = {}, 0
        for program in self.some_programs():
            end, steps = shown(program)
            for value in all_betterings(program):
                other = bettered(program, value)
                self.assertTrue(is_program(other))
                told, many = shown(other)
                if ("great",) in (end, told):
                    continue
                self.assertEqual(told, end, (tree_text(program), value))
                self.assertLessEqual(many, steps, (tree_text(program), value))
                less += many < steps
                ends[end[0]] = ends.get(end[0], 0) + 1
        self.assertTrue(all(ends[word] > 30 for word in ("value", "unanswered", "stuck")), ends)
        self.assertGreater(less, 100)

    def test_shared_programs_are_shown_alike(self):
        many = 0
        for program in self.some_programs():
            end = shown(program)[0]
            for path in all_paths(program)[:6]:
                for paths in alike_places(part_at(program, path)):
                    value = ("share", path, ("z", tuple(paths[:20])))
                    if is_bettering(program, value) and end != ("great",):
                        self.assertIn(shown(bettered(program, value))[0], (end, ("great",)))
                        many += 1
        self.assertGreater(many, 50)

    def test_bent_betterings(self):
        """A bettering bent in its word, its path or its more is one just if it can be done, too."""
        chance = random.Random(446)
        refused = 0
        for tree in some_trees(447, 40):
            if tree_size(tree) > 100:
                continue
            able = all_betterings(tree)
            for word, path, more in able[:6]:
                for value in ((chance.choice(["call", "let", "plain", "fold", "out", "drop", "share"]), path, more), (word, path + (0,), more), (word, path[:-1], more), (word, path, more + (0,)),
                              (word, path, (1,)), (word, path, ()), (word, path, (0,)), (word, path, None), (word, list(path), more), (word, path, list(more)), [word, path, more], (word, path),
                              (word, path, more, ()), (word.upper(), path, more), (word + " ", path, more), (word, None, more), (word, path, (True,)), (word, path, (-1,)), (word, path, (99,)),
                              ((word,), path, more), ([word], path, more), ({}, path, more), (None, path, more), (word, (True,), more), (word, (False,), more), ("other", path, more), ((), (), ()), None, word, 1):
                    kinds = isinstance(value, tuple) and len(value) == 3 and all(type(index) is int for part in value[1:] if isinstance(part, tuple) for index in part)
                    told = kinds and type(value[2]) is tuple and type(value[1]) is tuple and value in able
                    self.assertIs(is_bettering(tree, value), told, (tree_text(tree), value))
                    if not told:
                        refused += 1
                        checked(self, InvalidBettering, bettered, tree, value)
        self.assertGreater(refused, 1000)

    def test_bent_shares(self):
        tree = read_tree("Two(3 * 4, 3 * 4)")
        good = ("share", (), ("z", ((0,), (1,))))
        self.assertIs(is_bettering(tree, good), True)
        for name in NO_NAMES:
            self.assertIs(is_bettering(tree, ("share", (), (name, ((0,), (1,))))), False)
        for more in ((), ("z",), ("z", ((0,), (1,)), ()), ["z", ((0,), (1,))], ("z", [(0,), (1,)]), ("z", ([0], [1])), ("z", ((0,), [1])), ("z", ((False,), (True,))), ("z", (0, 1)), ("z", ((0,), (True,))),
                     ("z", ((0,), (1,), (2,))), ("z", None), ("z", ((0,), None)), (0,), None, "z", ("z", ((0, 0), (1, 0))), ("z", ((0,), (1,), (1, 0)))):
            self.assertIs(is_bettering(tree, ("share", (), more)), False, more)
            checked(self, InvalidBettering, bettered, tree, ("share", (), more))

    def test_trees_that_would_be_too_great(self):
        for many, told in ((748, True), (749, True), (750, False), (1500, False)):
            tree = ("let", "x", sized(many), ("shape", "Row", (X,) * 4))
            self.assertIs(is_bettering(tree, ("let", (), ())), told)
        one = ("shape", "One", (X,))
        exact = ("let", "x", sized(999), ("shape", "Row", (X, X, one, NUM)))
        self.assertEqual(size_of(bettered(exact, ("let", (), ()))), 3000)
        more = ("let", "x", sized(999), ("shape", "Row", (X, X, one, ("shape", "One", (NUM,)))))
        self.assertIs(is_bettering(more, ("let", (), ())), False)
        self.assertEqual(all_betterings(read_tree("let x = 1 in Two(x, x)")), [("let", (), ())])
        y = ("name", "y")
        self.assertEqual(tree_depth(bettered(("let", "y", nested(60), nested(59, y)), ("let", (), ()))), 120)
        self.assertIs(is_bettering(("let", "y", nested(60), nested(60, y)), ("let", (), ())), False)
        # The spot stands within a tree, and this would be too deep.
        self.assertEqual(tree_depth(bettered(nested(20, ("let", "y", nested(40), nested(59, y))), ("let", (0,) * 20, ()))), 120)
        self.assertIs(is_bettering(nested(21, ("let", "y", nested(40), nested(59, y))), ("let", (0,) * 21, ())), False)

    def test_sizes(self):
        for size in (400, 401):
            tree = sized(size)
            self.assertEqual(tree_size(tree), size)
            if size == 400:
                self.assertEqual(all_betterings(tree), [])
            else:
                checked(self, (TooMany, {"limit": 400}), all_betterings, tree)
        self.assertEqual(all_betterings(("shape", "Two", (sized(396), ("op", "+", NUM, NUM)))), [("fold", (1,), ())])
        checked(self, (TooMany, {"limit": 400}), all_betterings, ("shape", "Two", (sized(397), ("op", "+", NUM, NUM))))
        self.assertIs(is_bettering(("shape", "Two", (sized(2900), ("op", "+", NUM, NUM))), ("fold", (1,), ())), True)

    def test_wrong_arguments(self):
        for value in NO_TREES:
            checked(self, InvalidTree, is_bettering, value, None)
            checked(self, InvalidTree, bettered, value, None)
            checked(self, InvalidTree, all_betterings, value)


if __name__ == "__main__":
    unittest.main()
