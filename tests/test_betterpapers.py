"""[47] papers, [84], and of [3] that papers, too, keep the shown end and but for "share" do not more steps."""

import random
import unittest

from answerers import answerer_programs
from kinded import kinded_programs
from making import NO_TREES, NUM, A, B, C, Maker, X, checked, programs, sized
from nearanswer.betterings import all_betterings, bettered, is_bettering
from nearanswer.betterpapers import better_by, is_better_paper, made_better
from nearanswer.errors import InvalidNumber, InvalidPaper, InvalidTree, TooMany
from nearanswer.names import is_program
from nearanswer.texts import read_tree
from nearanswer.trees import tree_size
from test_betterings import bettering_tree, shown

FOLD = ("fold", (), ())
SUM = ("op", "+", NUM, NUM)


def some_programs(seed):
    maker = Maker(seed + 2)
    told = programs(seed, 80, 4) + kinded_programs(seed + 1, 30, 5) + answerer_programs() + [read_tree(text) for text in (A, B, C)]
    told += [tree for tree in (bettering_tree(maker, 3) for _ in range(400)) if is_program(tree)]
    return [program for program in told if tree_size(program) <= 150]


def sums(many):
    """A tree in which so many sums stand, and their paths."""
    if many == 1:
        return SUM, [()]
    shares = [many // 4 + (at < many % 4) for at in range(4)]
    parts = [sums(share) for share in shares if share]
    return ("shape", "Row", tuple(part for part, _ in parts)), [(at,) + path for at, (_, paths) in enumerate(parts) for path in paths]


def better_by_hand(tree, most):
    """[84], with all_betterings and bettered alone."""
    paper = ()
    while len(paper) < most and tree_size(tree) <= 400 and all_betterings(tree):
        paper += (all_betterings(tree)[0],)
        tree = bettered(tree, paper[-1])
    return tree, paper


class BetterPapersTest(unittest.TestCase):

    def test_made_better(self):
        lengths = set()
        for at, program in enumerate(some_programs(450)):
            most = (0, 1, 4, 25)[at % 4]
            told, paper = made_better(program, most)
            self.assertEqual((told, paper), better_by_hand(program, most))
            self.assertIs(is_better_paper(program, paper), True)
            self.assertEqual(better_by(program, paper), told)
            lengths.add(len(paper))
        self.assertTrue({0, 1, 2, 3, 4, 5, 8} <= lengths, lengths)

    def test_papers_keep_the_end_and_do_no_more_steps(self):
        ends, less = {}, 0
        for program in some_programs(451):
            told, paper = made_better(program, 30)
            end, many = shown(program)
            other, steps = shown(told)
            self.assertTrue(is_program(told))
            if ("great",) in (end, other):
                continue
            self.assertEqual(end, other)
            self.assertLessEqual(steps, many)
            less += steps < many
            ends[end[0]] = ends.get(end[0], 0) + 1
        self.assertGreater(less, 80)
        self.assertTrue(all(ends[word] > 10 for word in ("value", "stuck", "unanswered")), ends)

    def test_papers_by_chance(self):
        chance = random.Random(452)
        for program in some_programs(453):
            tree, paper = program, ()
            while len(paper) < 6 and tree_size(tree) <= 400 and all_betterings(tree):
                paper += (chance.choice(all_betterings(tree)),)
                tree = bettered(tree, paper[-1])
            self.assertIs(is_better_paper(program, paper), True)
            self.assertEqual(better_by(program, paper), tree)
            end, other = shown(program)[0], shown(tree)[0]
            if ("great",) not in (end, other):
                self.assertEqual(end, other)

    def test_bent_papers(self):
        """A paper bent at one place is one just if each bettering can be done behind those ahead of it."""
        chance = random.Random(454)
        refused = 0
        for program in some_programs(455):
            paper = made_better(program, 12)[1]
            if not paper:
                continue
            at = chance.randrange(len(paper))
            word, path, more = paper[at]
            for step in ((chance.choice(["call", "let", "fold", "out", "drop"]), path, more), (word, path + (0,), more), (word, path, (0,)), (word, path, ()), [word, path, more], (word, list(path), more),
                         (word, path, None), None, ("share", path, ("z", ((0,), (1,)))), (word, path[:-1], more)):
                bent = paper[:at] + (step,) + paper[at + 1:]
                tree, told = program, True
                for one in bent:
                    told = told and is_bettering(tree, one)
                    tree = bettered(tree, one) if told else tree
                self.assertIs(is_better_paper(program, bent), told)
                if told:
                    self.assertEqual(better_by(program, bent), tree)
                else:
                    refused += 1
                    checked(self, InvalidPaper, better_by, program, bent)
            for value in (list(paper), paper[0], paper[0][0], None, paper + (None,), (None,) + paper, 1, True, {}):
                self.assertIs(is_better_paper(program, value), False)
                checked(self, InvalidPaper, better_by, program, value)
        self.assertGreater(refused, 500)

    def test_papers_in_order(self):
        tree = read_tree("let x = 2 + 3 in x * x")
        paper = (("fold", (0,), ()), ("let", (), ()), FOLD)
        for many in range(4):
            self.assertIs(is_better_paper(tree, paper[:many]), True)
        self.assertEqual([better_by(tree, paper[:many]) for many in range(4)], [tree, read_tree("let x = 5 in x * x"), read_tree("5 * 5"), ("num", 25)])
        for value in (paper[1:], paper[::-1], paper[:1] * 2, paper + paper[:1], (paper[0], paper[2])):
            self.assertIs(is_better_paper(tree, value), False)
        shared = read_tree("Two(x, 3 * 4) + Two(y, 3 * 4)")
        share = ("share", (), ("z", ((0, 1), (1, 1))))
        self.assertIs(is_better_paper(shared, (share, ("fold", (0,), ()))), True)
        self.assertIs(is_better_paper(shared, (("fold", (0, 1), ()), share)), False)
        self.assertEqual(better_by(shared, (share, ("fold", (0,), ()), ("let", (), ()))), read_tree("Two(x, 12) + Two(y, 12)"))

    def test_long_papers(self):
        tree, paths = sums(201)
        paper = tuple(("fold", path, ()) for path in paths)
        self.assertEqual(len(paper), 201)
        self.assertIs(is_better_paper(tree, paper[:200]), True)
        self.assertIs(is_better_paper(tree, paper), False)
        checked(self, InvalidPaper, better_by, tree, paper)
        self.assertEqual(str(better_by(tree, paper[:200])).count("'+'"), 1)
        small, paths = sums(90)
        told, paper = made_better(small, 200)
        self.assertEqual((len(paper), "'+'" in str(told)), (90, False))
        self.assertEqual([len(made_better(small, most)[1]) for most in (0, 1, 89, 90, 91)], [0, 1, 89, 90, 90])

    def test_trees_that_grow(self):
        """Behind a bettering by which a tree comes to be greater than 400, there is no further one."""
        tree = ("let", "x", sized(100), ("shape", "Row", (X, X, X, ("op", "+", NUM, X))))
        self.assertEqual([step[0] for step in made_better(tree, 200)[1]], ["let"])
        self.assertEqual(tree_size(made_better(tree, 200)[0]), 403)
        pick = ("match", NUM, ((("any",), NUM),))
        for parts, size, words in (((X, X), 400, ["let", "pick"]), ((X, X, NUM), 401, ["let"]), ((X, X, NUM, NUM), 402, ["let"])):
            whole = ("shape", "Two", (("let", "x", sized(197), ("shape", "Row", parts)), pick))
            self.assertEqual(tree_size(bettered(whole, ("let", (0,), ()))), size)
            self.assertEqual([step[0] for step in made_better(whole, 200)[1]], words)
        endless = read_tree("(fun x -> x x) (fun x -> x x)")
        self.assertEqual(made_better(endless, 200), (endless, (("call", (), ()),) * 200))

    def test_sizes(self):
        self.assertEqual(made_better(sized(400), 200), (sized(400), ()))
        checked(self, (TooMany, {"limit": 400}), made_better, sized(401), 0)
        checked(self, InvalidNumber, made_better, sized(401), 201)
        self.assertIs(is_better_paper(sized(3000), ()), True)
        self.assertEqual(better_by(sized(3000), ()), sized(3000))

    def test_wrong_arguments(self):
        for value in NO_TREES:
            checked(self, InvalidTree, is_better_paper, value, None)
            checked(self, InvalidTree, better_by, value, None)
            checked(self, InvalidTree, made_better, value, None)
        for value in [201, -1, True, False, None, "9", 9.0, (9,), 10 ** 100]:
            checked(self, InvalidNumber, made_better, NUM, value)
        self.assertEqual((made_better(NUM, 0), made_better(NUM, 200)), ((NUM, ()), (NUM, ())))


if __name__ == "__main__":
    unittest.main()
