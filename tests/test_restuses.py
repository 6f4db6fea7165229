"""[32], [33], [34], [73]: uses and ends, how bodies use their rests, and papers about it."""

import random
import unittest

from answerers import answerer_programs
from lasting import ends_by_hand, is_paper_by_hand, last_programs, uses_by_hand, word_by_hand
from making import NO_NAMES, NO_TREES, NUM, X, checked, sized, trees
from nearanswer.errors import InvalidName, InvalidTree
from nearanswer.restuses import is_use_paper, rest_use, row_uses, tree_ends, use_paper, uses_of
from nearanswer.texts import read_tree
from nearanswer.treeforms import part_by as part_at
from nearanswer.treeforms import paths_in as all_paths

WORDS = [
    ("x", "never"), ("1", "never"), ("fun k -> k", "never"), ("let k = 1 in k 2", "never"), ("match 1 {k -> k 1}", "never"), ("rec k x = k x in k 1", "never"),
    ("answer 1 {plain k -> k; ask k l -> k; tell e k -> k}", "never"), ("do k 1", "never"),
    ("k 1", "last"), ("k x", "last"), ("let y = 1 in k y", "last"), ("rec f x = f x in k (f 1)", "last"), ("match x {0 -> k 1; _ -> k 2}", "last"),
    ("match x {0 -> k 1; _ -> let y = 2 in k (x + y)}", "last"), ("k (fun x -> x)", "last"), ("k (do ask 1)", "last"), ("k (fun k -> k 1)", "last"),
    ("let y = fun k -> k in k y", "last"), ("match fun k -> k {0 -> rec f x = f in match x {y -> k y}; _ -> k 3}", "last"), ("let k = 1 in let x = 2 in 3", "never"),
    ("k", "once"), ("let y = k 1 in y", "once"), ("match x {0 -> k 1; _ -> 5}", "once"), ("match x {0 -> k 1; _ -> k}", "once"), ("k 1 + 2", "once"), ("k 1 2", "once"),
    ("f k", "once"), ("Two(1, k)", "once"), ("do ask k", "once"), ("match k 1 {_ -> 2}", "once"), ("match x {0 -> 1 + k 1; 1 -> let y = k in y; _ -> k 2}", "once"),
    ("let y = 1 in k y + 1", "once"), ("let y = k y in 1", "once"), ("rec f x = 1 in f k", "once"), ("match x {0 -> match y {0 -> k 1; _ -> k 2}; _ -> Two(k, 1)}", "once"),
    ("1 k", "once"), ("match x {k -> k 1; _ -> k 2}", "once"), ("let k = k 1 in k", "once"), ("let k = 1 in k 2 + k", "never"), ("k 1 (fun k -> k)", "once"),
    ("k 1 + k 2", "many"), ("fun y -> k y", "many"), ("k (k 1)", "many"), ("k k", "many"), ("let y = k 1 in k y", "many"), ("match k 1 {_ -> k 2}", "many"),
    ("rec f x = k x in 1", "many"), ("rec f x = k in f 1", "many"), ("rec f x = f x in k (k 1)", "many"), ("answer k 1 {plain x -> x}", "many"),
    ("answer 1 {plain x -> k x}", "many"), ("answer 1 {plain x -> x; ask e l -> k e}", "many"), ("match x {0 -> k 1 + k 2; _ -> 1}", "many"),
    ("let y = fun x -> k in y", "many"), ("match x {0 -> fun y -> k; _ -> k 1}", "many"), ("Two(k, k)", "many"), ("match k {0 -> k 1; _ -> k 2}", "many"),
    ("match x {0 -> k 1; _ -> match k 1 {0 -> k 2; _ -> 3}}", "many"), ("k (fun x -> k)", "many"), ("match x {0 -> k 1; _ -> k 2} + k 3", "many"), ("let y = k in fun z -> y", "once")]


def some_bodies():
    told = trees(280, 400, 4)
    for program in last_programs(281, 200, 5, 0.6) + answerer_programs():
        for path in all_paths(program):
            one = part_at(program, path)
            if one[0] == "answer":
                told.extend(row[3] for row in one[3])
    return told


def bent_papers(chance, paper, body, rest):
    word, paths = paper
    told = [(other, paths) for other in ("never", "last", "once", "many") if other != word] + [(word, paths + paths[:1]), (word, paths[:-1]), (word, paths[1:]), (word, paths[::-1])]
    told += [(word, list(paths)), [word, paths], (word,), (word, paths, 1), (word, None), (word, paths + ((),)), ((word,), paths), (None, paths), (True, paths), (word, (None,))]
    for at, path in enumerate(paths):
        for other in [path + (0,), path[:-1], path[::-1], list(path), tuple(bool(index) for index in path), tuple(float(index) for index in path), None, path + (True,)]:
            told.append((word, paths[:at] + (other,) + paths[at + 1:]))
    every = all_paths(body)
    for _ in range(4):
        told.append((word, tuple(sorted(chance.sample(every, min(len(every), chance.randrange(3)))))))
    uses = uses_of(body, rest)
    for _ in range(4):
        told.append((word, tuple(chance.choice(uses) for _ in range(2))) if uses else (word, ()))
    return told


class RestUsesTest(unittest.TestCase):

    def test_words(self):
        for text, word in WORDS:
            self.assertEqual(rest_use(read_tree(text), "k"), word, text)

    def test_uses_and_ends(self):
        for body in some_bodies():
            for name in ("k", "x", "f"):
                self.assertEqual(uses_of(body, name), uses_by_hand(body, name))
            self.assertEqual(tree_ends(body), ends_by_hand(body))
        for text, ends in [("1", [()]), ("let x = 1 in 2", [(1,)]), ("rec f x = let y = 1 in 2 in let z = 3 in 4", [(1, 1)]), ("match 1 {0 -> 2; _ -> let x = 3 in 4}", [(1,), (2, 1)]),
                           ("(let x = 1 in x) 2", [()]), ("fun x -> let y = 1 in y", [()]), ("answer 1 {plain x -> let y = 1 in y}", [()])]:
            self.assertEqual(tree_ends(read_tree(text)), ends)

    def test_all_bodies(self):
        words = {}
        for body in some_bodies():
            for rest in ("k", "f"):
                word = rest_use(body, rest)
                self.assertEqual(word, word_by_hand(body, rest))
                words[word] = words.get(word, 0) + 1
        self.assertEqual(sorted(words), ["last", "many", "never", "once"])
        self.assertGreater(min(words.values()), 15)

    def test_rows(self):
        self.assertEqual(row_uses(read_tree("1 + 2")), [])
        self.assertEqual(row_uses(read_tree("answer 1 {plain x -> x}")), [])
        text = ("answer answer 1 {plain x -> x; tell e k -> k e; ask e k -> e} {plain x -> answer 2 {plain x -> x; ask e k -> k e + 1}; "
                "say e k -> answer k e {plain x -> x; ask f l -> fun y -> l; tell f l -> k}; ask e k -> let y = k in y}")
        self.assertEqual(row_uses(read_tree(text)), [
            ((), "say", "many"), ((), "ask", "once"), ((0,), "tell", "last"), ((0,), "ask", "never"), ((1,), "ask", "once"), ((2,), "ask", "many"), ((2,), "tell", "never")])
        for program in last_programs(282, 100, 5, 0.6):
            told = []
            for path in all_paths(program):
                one = part_at(program, path)
                if one[0] == "answer":
                    told.extend((path, deed, word_by_hand(body, rest)) for deed, _, rest, body in one[3])
            self.assertEqual(row_uses(program), told)

    def test_papers(self):
        for body in some_bodies():
            for rest in ("k", "y"):
                paper = use_paper(body, rest)
                self.assertIs(is_use_paper(body, rest, paper), True)
                self.assertIs(is_paper_by_hand(body, rest, paper), True)
                self.assertEqual(paper[0], rest_use(body, rest))

    def test_small_papers(self):
        two = read_tree("Two(k, Two(k, fun x -> k))")
        for value, told in [
                (("many", ((0,), (1, 0))), True), (("many", ((1, 1, 0),)), True), (("many", ((0,), (1, 1, 0))), True), (("many", ((1, 0), (1, 1, 0))), True),
                (("many", ((0,),)), False), (("many", ((0,), (0,))), False), (("many", ((1, 0), (0,))), False), (("many", ()), False),
                (("many", ((0,), (1, 0), (1, 1, 0))), False), (("once", ((0,), (1, 0))), False), (("many", ((0,), (1,))), False)]:
            self.assertIs(is_use_paper(two, "k", value), told, value)
        rows = read_tree("match x {0 -> k 1; 1 -> k 2; _ -> Two(k, k)}")
        self.assertIs(is_use_paper(rows, "k", ("many", ((1, 0), (2, 0)))), False)
        self.assertIs(is_use_paper(rows, "k", ("many", ((3, 0), (3, 1)))), True)
        self.assertIs(is_use_paper(NUM, "k", ("never", ())), True)
        self.assertEqual(use_paper(rows, "x"), ("once", ((0,),)))

    def test_bent_papers(self):
        chance = random.Random(283)
        said = [0, 0]
        for body in some_bodies()[::5]:
            for bent in bent_papers(chance, use_paper(body, "k"), body, "k"):
                told = is_use_paper(body, "k", bent)
                self.assertIs(told, has_plain_form(bent) and is_paper_by_hand(body, "k", bent), bent)
                said[told] += 1
        self.assertGreater(min(said), 100)
        for value in NO_TREES + [None, ("last", None), ("last", ((None,),)), ("last", ("x",)), ("last", "x")]:
            self.assertIs(is_use_paper(read_tree("k 1"), "k", value), False)

    def test_great_bodies(self):
        body = ("shape", "Row", (("call", ("name", "k"), sized(1500)), ("call", ("name", "k"), sized(1400))))
        self.assertEqual(rest_use(body, "k"), "many")
        wide = read_tree("k")
        for many in (4, 4, 4, 4, 3):
            wide = ("match", X, ((("any",), wide),) * many)
        self.assertEqual((rest_use(wide, "k"), len(uses_of(wide, "k"))), ("once", 768))
        deep = ("call", ("name", "k"), NUM)
        for _ in range(118):
            deep = ("let", "x", NUM, deep)
        self.assertEqual((rest_use(deep, "k"), use_paper(deep, "k")), ("last", ("last", ((1,) * 118 + (0,),))))

    def test_wrong_arguments(self):
        for value in NO_TREES:
            for action in (uses_of, rest_use, use_paper):
                checked(self, InvalidTree, action, value, None)
            checked(self, InvalidTree, is_use_paper, value, None, None)
            checked(self, InvalidTree, tree_ends, value)
            checked(self, InvalidTree, row_uses, value)
        for value in NO_NAMES:
            for action in (uses_of, rest_use, use_paper):
                checked(self, InvalidName, action, X, value)
            checked(self, InvalidName, is_use_paper, X, value, None)


def has_plain_form(value):
    """Whether all indices in a value are integers, and all of it tuples: what is equal to a paper otherwise, is none."""
    if isinstance(value, tuple):
        return all(has_plain_form(part) for part in value)
    return type(value) in (int, str)
