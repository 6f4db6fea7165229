"""[14], [59]: kindings and widest kindings of programs; of the guarantees those of kinds."""

import unittest

from kinded import BOOK, N, OPT, TRUTH, kinded_programs, let_programs
from kindmodel import told_widest
from making import NO_PROGRAMS, NO_TREES, NUM, A, B, C, X, checked, error_of, programs
from nearanswer.books import is_instance, is_kinding, plain_kinding
from nearanswer.errors import InvalidBook, InvalidKinding, InvalidProgram, InvalidTree, TooMany
from nearanswer.kinds import deeds_left, has_kinding, widest
from nearanswer.rewriting import step_of
from nearanswer.texts import read_tree
from nearanswer.trees import tree_size
from test_books import NO_BOOKS, NO_KINDINGS, fun, opt, pair

O = [("open", index) for index in range(9)]
PURE = ((), 0)


def row(deeds, tail=0):
    return (tuple(deeds.split()), tail)


def kind(text):
    return widest(BOOK, read_tree(text))


class KindsTest(unittest.TestCase):

    def test_rules(self):
        for text, told in [
                ("1", (N, PURE)), ("fun x -> 1", (fun(O[0], N, PURE), ((), 1))), ("fun x -> x + 1", (fun(N, N, PURE), ((), 1))),
                ("1 < 2", (TRUTH, PURE)), ("1 = 2", (TRUTH, PURE)), ("Yes() = No()", None), ("1 + No()", None),
                ("Yes()", (TRUTH, PURE)), ("Nil()", (opt(O[0]), PURE)), ("One(1)", (OPT, PURE)), ("One(1, 2)", None), ("One()", None),
                ("Cry()", None), ("Two(1, Nil())", (pair(N, opt(O[0])), PURE)), ("fun x -> Two(x, x)", (fun(O[0], pair(O[0], O[0]), PURE), ((), 1))),
                ("fun f -> f 1", (fun(fun(N, O[0], PURE), O[0], PURE), ((), 1))), ("1 1", None), ("(fun x -> x x) 1", None),
                ("fun x -> x x", None), ("fun f -> fun x -> f (f x)", (fun(fun(O[0], O[0], PURE), fun(O[0], O[0], PURE), ((), 1)), ((), 2))),
                ("match 1 {0 -> 1; x -> x}", (N, PURE)), ("match 1 {Yes() -> 1}", None), ("match 1 {0 -> 1; _ -> No()}", None),
                ("fun x -> match x {One(y) -> y; Nil() -> 1}", (fun(OPT, N, PURE), ((), 1))), ("match Nil() {One() -> 1}", None),
                ("fun x -> match x {Two(a, One(b)) -> a + b}", (fun(pair(N, OPT), N, PURE), ((), 1))), ("match 1 {Cry() -> 1}", None),
                ("match 1 < 2 {Yes() -> 1; No() -> 2}", (N, PURE)), ("match fun x -> x {f -> f 1}", (N, PURE)),
                ("do ask 1", (N, row("ask"))), ("do pick 1", (TRUTH, row("pick"))), ("do ask No()", None), ("do cry 1", None),
                ("do stop 1", (OPT, row("stop"))), ("do ask 1 + do ask 2", (N, row("ask"))), ("One(do ask 1)", (OPT, row("ask"))),
                ("match do pick 1 {Yes() -> do ask 1; _ -> 2}", (N, row("ask pick"))), ("fun x -> do ask x", (fun(N, N, row("ask")), ((), 1))),
                ("(fun x -> do ask x) 1", (N, row("ask"))), ("let x = do ask 1 in x", (N, row("ask"))),
                ("let f = fun x -> do ask x in 1", (N, PURE)), ("rec f x = do ask x in f 1", (N, row("ask"))),
                ("rec f x = do ask x in 1", (N, PURE)), ("rec f x = f x in f", (fun(O[0], O[1], PURE), ((), 1))),
                ("rec f x = f in f", None), ("rec f x = f (x + 1) in f", (fun(N, O[0], PURE), ((), 1))), (A, (N, PURE)), (B, None), (C, (N, PURE)),
                ("let x = 1 1 in 2", None), ("let x = fun y -> y y in 2", None), ("rec f x = 1 1 in 2", None)]:
            self.assertEqual(kind(text), told, text)

    def test_answerers(self):
        for text, told in [
                ("answer 1 {plain x -> x}", (N, PURE)), ("answer do ask 1 {plain x -> x}", (N, row("ask"))),
                ("answer do ask 1 {plain x -> x; ask x k -> k (x + 1)}", (N, PURE)), ("answer 1 {plain x -> Nil(); ask x k -> k No()}", None),
                ("answer 1 {plain x -> Nil(); ask x k -> k x}", (opt(O[0]), PURE)), ("answer 1 {plain x -> x; cry x k -> x}", None),
                ("answer do ask 1 {plain x -> x; ask x k -> do ask x}", (N, row("ask"))),
                ("answer do ask 1 {plain x -> do ask x; ask x k -> k (do pick x)}", None),
                ("answer do ask 1 {plain x -> x; ask x k -> match do pick x {_ -> k x}}", (N, row("pick"))),
                ("answer do ask 1 + do ask 2 {plain x -> x; ask x k -> k (do ask (k 1))}", (N, row("ask"))),
                ("answer do ask 1 {plain x -> x; ask x k -> k}", None), ("answer do ask 1 {plain x -> fun y -> y; ask x k -> k x}",
                                                                        (fun(O[0], O[0], PURE), ((), 1))),
                ("fun f -> answer f 1 {plain x -> x; ask x k -> 1; pick x k -> 2}", (fun(fun(N, N, row("ask pick")), N, PURE), ((), 1))),
                ("fun f -> answer answer f 1 {plain x -> x; ask x k -> 1} {plain x -> x; ask x k -> 2}",
                 (fun(fun(N, N, row("ask ask")), N, PURE), ((), 1))),
                ("fun f -> f (do ask 1) + (answer f 1 {plain x -> x; ask x k -> 1})", None),
                ("fun k -> answer k 1 + k 2 {plain x -> do ask x; ask x k -> x}", (fun(fun(N, N, row("ask ask")), N, row("ask")), ((), 1)))]:
            self.assertEqual(kind(text), told, text)

    def test_deeds_that_stand_twice(self):
        text = "fun f -> answer answer f 1 {plain x -> x; ask x k -> 1} {plain x -> x; ask x k -> 2}"
        program = read_tree(text)
        for deeds, told in (("ask ask", True), ("ask ask ask", False), ("ask", False), ("ask ask pick", False)):
            self.assertIs(has_kinding(BOOK, program, (fun(fun(N, N, row(deeds, None)), N), ((), None))), told, deeds)
        inner = (fun(fun(N, N, row("ask ask pick", None)), N, row("pick", None)), ((), None))
        self.assertIs(has_kinding(BOOK, program, inner), True)

    def test_still_ones(self):
        for text, told in [
                ("let i = fun x -> x in Two(i 1, i No())", (pair(N, TRUTH), PURE)),
                ("let i = Two(fun x -> x, Nil()) in match i {Two(f, _) -> Two(f 1, i)}", kind("Two(1, Two(fun x -> x, Nil()))")),
                ("let n = Nil() in Two(n, match n {One(x) -> x + 1; Nil() -> 0})", (pair(opt(O[0]), N), PURE)),
                ("let n = One(Nil()) in Two(match n {One(One(x)) -> x; _ -> 1}, n)", (pair(N, opt(opt(O[0]))), PURE)),
                ("let i = (fun y -> y) (fun x -> x) in i", (fun(O[0], O[0], PURE), ((), 1))),
                ("let i = (fun y -> y) (fun x -> x) in Two(i 1, i No())", None), ("let n = match 1 {_ -> Nil()} in Two(n, match n {One(x) -> x + 1})",
                                                                                 (pair(OPT, N), PURE)),
                ("fun y -> let i = fun x -> y in Two(i 1, i No())", (fun(O[0], pair(O[0], O[0]), PURE), ((), 1))),
                ("fun y -> let i = y in Two(i 1, i No())", None), ("fun f -> let g = fun x -> f x in Two(g 1, g 2)",
                                                                  (fun(fun(N, O[0], PURE), pair(O[0], O[0]), PURE), ((), 1))),
                ("fun f -> let g = fun x -> f x in Two(g 1, g No())", None), ("(fun i -> Two(i 1, i No())) (fun x -> x)", None),
                ("match fun x -> x {i -> Two(i 1, i No())}", None), ("let i = One(One(fun x -> x)) in match i {One(One(f)) -> Two(f 1, f No())}", None),
                ("let f = fun g -> g 1 in Two(f (fun x -> x), f (fun x -> do ask x))", (pair(N, N), row("ask"))),
                ("fun u -> let f = fun g -> g u in Two(f (fun x -> x), f (fun x -> No()))", (fun(O[0], pair(O[0], TRUTH), PURE), ((), 1)))]:
            self.assertEqual(kind(text), told, text)

    def test_rows_that_stills_share_with_names_outside(self):
        for text in [
                "let k = fun f -> let g = fun x -> let y = f 1 in x in g in Two(k (fun x -> do ask x) 5, k)",
                "let k = fun f -> let g = fun x -> let y = f 1 in x in One(g) in Two(k (fun x -> do ask x), k)",
                "let k = fun f -> let g = fun x -> let y = f 1 in x in let h = One(g) in h in Two(k (fun x -> do ask x), k (fun x -> x))",
                "let k = fun u -> let g = fun x -> u in let h = Two(g, g) in h in Two(k 1, k No())",
                "fun f -> let g = fun x -> let y = f 1 in x in let h = g in let i = h in Two(i 1, Two(h No(), i))",
                "fun f -> let g = fun x -> f x in let h = g in (fun z -> do ask (f 1)) (h 2)"]:
            program = read_tree(text)
            self.assertEqual(widest(BOOK, program), told_widest(BOOK, program), text)
            self.assertIsNotNone(widest(BOOK, program), text)

    def test_recs_at_two_kinds(self):
        self.assertEqual(kind("rec i x = x in Two(i 1, i No())"), (pair(N, TRUTH), PURE))
        self.assertIsNone(kind("rec i x = let y = i 1 in let z = i No() in x in i"))
        self.assertEqual(kind("rec i x = let y = i x in x in Two(i 1, i No())"), (pair(N, TRUTH), PURE))
        self.assertIsNone(kind("fun y -> rec f x = y in f 1 + match f No() {Yes() -> 1}"))
        self.assertEqual(kind("fun y -> rec f x = y in Two(f 1, f No())"), (fun(O[0], pair(O[0], O[0]), PURE), ((), 1)))

    def test_names_bound_again(self):
        self.assertEqual(kind("fun x -> let y = fun z -> x in fun x -> Two(y 1, Two(x + 1, y x))"),
                         (fun(O[0], fun(N, pair(O[0], pair(N, O[0])), ((), 1)), PURE), ((), 2)))
        self.assertEqual(kind("let x = fun x -> x in let x = Two(x 1, x) in x"), (pair(N, fun(O[0], O[0], PURE)), ((), 1)))

    def test_has_kinding(self):
        identity = read_tree("fun x -> x")
        self.assertIs(has_kinding(BOOK, identity, (fun(O[5], O[5], ((), 7)), ((), 9))), True)
        self.assertIs(has_kinding(BOOK, identity, (fun(O[5], O[6], ((), 7)), ((), 9))), False)
        self.assertIs(has_kinding(BOOK, identity, (O[0], ((), 9))), False)
        self.assertIs(has_kinding(BOOK, NUM, (N, row("ask ask", 1))), True)
        self.assertIs(has_kinding(BOOK, read_tree("do ask 1"), (N, row("ask pick", None))), True)
        self.assertIs(has_kinding(BOOK, read_tree("do ask 1"), (N, row("pick", 1))), False)
        self.assertIs(has_kinding(BOOK, read_tree("1 2"), (N, ((), None))), False)
        for program in kinded_programs(30, 60, 4) + let_programs(31, 100, 4):
            if error_of(widest, BOOK, program) is None:
                told = widest(BOOK, program)
                if told is not None:
                    self.assertIs(is_kinding(BOOK, told), True)
                    self.assertEqual(plain_kinding(BOOK, told), told)
                    self.assertIs(has_kinding(BOOK, program, told), True)
                    self.assertIs(has_kinding(BOOK, program, (told[0], (tuple(sorted(told[1][0] + ("stop",))), told[1][1]))), True)
                    self.assertIs(has_kinding(BOOK, program, (told[0], (told[1][0], None))), told[1][1] not in tails(told[0]))
                else:
                    self.assertIs(has_kinding(BOOK, program, (N, ((), None))), False)

    def test_instances_alone(self):
        kindings = [(N, ((), None)), (N, row("ask", None)), (OPT, ((), None)), (fun(N, N), ((), None)), (fun(N, N, ((), 3)), ((), 3)),
                    (fun(O[0], O[0]), ((), 1)), (opt(O[1]), ((), 1)), (pair(N, OPT), row("ask", 2)), (TRUTH, row("ask pick", 0))]
        for program in kinded_programs(32, 60, 3) + let_programs(33, 200, 4):
            if error_of(widest, BOOK, program) is None and widest(BOOK, program) is not None:
                for kinding in kindings:
                    self.assertIs(has_kinding(BOOK, program, kinding), is_instance(BOOK, kinding, widest(BOOK, program)))

    def test_deeds_left(self):
        for text, told in [
                ("1", []), ("do pick 1", ["pick"]), ("1 2", None), ("fun x -> do ask x", []), ("do ask 1 + match do pick 2 {_ -> 1}", ["ask", "pick"]),
                ("answer do ask 1 {plain x -> x; ask x k -> match do stop 1 {_ -> do ask x}}", ["ask", "stop"])]:
            self.assertEqual(deeds_left(BOOK, read_tree(text)), told, text)

    def test_widest_as_the_rules_tell(self):
        seen = {True: 0, False: 0}
        some = kinded_programs(34, 250, 4) + let_programs(35, 1200) + programs(36, 300, 3) + programs(37, 300, 2)
        for program in some:
            if tree_size(program) <= 120 and error_of(widest, BOOK, program) is None:
                told = widest(BOOK, program)
                self.assertEqual(told, told_widest(BOOK, program), program)
                seen[told is None] += 1
        self.assertGreater(min(seen.values()), 300)


def tails(kind):
    if kind[0] == "fun":
        return [kind[2][1]] + tails(kind[1]) + tails(kind[3])
    return [tail for part in kind[2] for tail in tails(part)] if kind[0] == "sort" else []


class BoundsTest(unittest.TestCase):

    def test_sizes(self):
        def sums(size):
            tree = NUM
            for _ in range((size - 1) // 8):
                tree = ("op", "+", ("op", "+", ("op", "+", NUM, NUM), ("op", "+", NUM, NUM)), tree)
            for _ in range((size - 1) % 8 // 2):
                tree = ("op", "+", NUM, tree)
            return tree if size % 2 == 1 else ("fun", "x", sums(size - 1))
        for size in (399, 400, 401, 402):
            self.assertEqual(tree_size(sums(size)), size)
            if size <= 400:
                self.assertIsNotNone(widest(BOOK, sums(size)))
                self.assertEqual(deeds_left(BOOK, sums(size)), [])
            else:
                limit = (TooMany, {"limit": 400})
                checked(self, limit, widest, BOOK, sums(size))
                checked(self, limit, deeds_left, BOOK, sums(size))
                checked(self, limit, has_kinding, BOOK, sums(size), (N, PURE))
                checked(self, InvalidKinding, has_kinding, BOOK, sums(size), None)

    def test_lets_and_recs(self):
        for word in ("let", "rec", "both"):
            tree = NUM
            for many in range(14):
                limit = (TooMany, {"limit": 12})
                if many <= 12:
                    self.assertEqual(widest(BOOK, tree), (N, PURE))
                    self.assertEqual(deeds_left(BOOK, tree), [])
                    self.assertIs(has_kinding(BOOK, tree, (N, PURE)), True)
                else:
                    checked(self, limit, widest, BOOK, tree)
                    checked(self, limit, deeds_left, BOOK, tree)
                    checked(self, limit, has_kinding, BOOK, tree, (N, PURE))
                    checked(self, InvalidKinding, has_kinding, BOOK, tree, None)
                is_let = word == "let" or (word == "both" and many % 2)
                tree = ("let", "x", NUM, tree) if is_let else ("rec", "f", "x", X, tree)

    def test_size_ahead_of_lets(self):
        tree = NUM
        for _ in range(13):
            tree = ("let", "x", ("shape", "Two", (("shape", "Two", (NUM, NUM)),) * 2), tree)
        big = ("shape", "Two", (tree, ("shape", "Two", (tree, tree))))
        self.assertGreater(tree_size(big), 300)
        checked(self, (TooMany, {"limit": 12}), widest, BOOK, tree)
        checked(self, (TooMany, {"limit": 400}), widest, BOOK, ("shape", "Two", (big, big)))

    def test_great_kindings(self):
        tree = read_tree("fun x -> Two(x, x)")
        kinding = widest(BOOK, tree)
        self.assertIsNotNone(kinding)
        for _ in range(60):
            tree = ("call", ("fun", "x", ("shape", "Two", (X, X))), tree)
        checked(self, (TooMany, {"limit": 400}), widest, BOOK, tree)
        self.assertEqual(deeds_left(BOOK, tree), [])
        self.assertEqual(deeds_left(BOOK, ("shape", "Two", (tree, ("do", "ask", NUM)))), ["ask"])
        self.assertIs(has_kinding(BOOK, tree, (N, PURE)), False)
        self.assertIsNone(deeds_left(BOOK, ("call", tree, NUM)))

    def test_great_kindings_of_lets(self):
        """Copies of copies: the kind of the last let would have far too many open kinds to be written down."""
        for wide in (1, 2, 4, 8):
            tree = ("do", "ask", NUM)
            for at in range(11, 0, -1):
                one = ("name", "v" + "abcdefghijkl"[at - 1])
                for _ in range(wide):
                    one = ("shape", "Two", (("name", "v" + "abcdefghijkl"[at - 1]), one))
                tree = ("let", "v" + "abcdefghijkl"[at], one, tree)
            tree = ("let", "va", ("fun", "x", X), tree)
            self.assertEqual(deeds_left(BOOK, tree), ["ask"])
            self.assertEqual(widest(BOOK, tree), (N, row("ask")))
            for last in (read_tree("match 1 {1 -> vl; _ -> vl}"), ("name", "vl")):
                tree = put_last(tree, last)
                checked(self, (TooMany, {"limit": 400}), widest, BOOK, tree)
                self.assertEqual(deeds_left(BOOK, tree), [])
                self.assertIs(has_kinding(BOOK, tree, (pair(N, N), PURE)), False)

    def test_bounds_of_kindings(self):
        def leaves(many, leaf):
            if many == 1:
                return leaf
            return ("shape", "Two", (leaves(many // 2, leaf), leaves(many - many // 2, leaf)))
        fits = [leaves(100, ("fun", "x", X)), leaves(200, NUM), ("let", "n", leaves(100, NUM), ("shape", "Two", (("name", "n"), ("name", "n")))),
                ("let", "i", ("fun", "x", X), leaves(100, ("name", "i")))]
        for program in fits:
            self.assertIsNotNone(widest(BOOK, program))
        great = [leaves(101, ("fun", "x", X)), ("let", "n", leaves(100, NUM), leaves(3, ("name", "n"))), ("let", "i", ("fun", "x", X), leaves(101, ("name", "i")))]
        for program in great:
            checked(self, (TooMany, {"limit": 400}), widest, BOOK, program)
        deep = NUM
        for many in range(61):
            program = ("let", "n", deep, ("shape", "One", (("name", "n"),)))
            if many <= 58:
                self.assertIsNotNone(widest(BOOK, program))
            else:
                checked(self, (TooMany, {"limit": 60}), widest, BOOK, program)
            deep = ("shape", "One", (deep,))

    def test_deeds_count_in_kindings(self):
        """A kinding of a size of 400: as many deeds as there may be beside its kinds, and one more."""
        text = "fun f -> answer f 1 {plain x -> x; ask x k -> 1; pick x k -> 1; stop x k -> 1}"
        again = "(fun f -> fun x -> answer f x {plain x -> x; ask x k -> 1; pick x k -> 1; stop x k -> 1})"
        program = read_tree(text)
        self.assertEqual(widest(BOOK, program)[0][1][2][0], ("ask", "pick", "stop"))
        lets = "let a = " + again + " in let b = fun z -> a (a z) in let c = fun z -> b (b z) in let d = fun z -> c (c z) in "
        lets += "let e = fun z -> d (d z) in let g = fun z -> e (e z) in let h = fun z -> g (g z) in "
        told = widest(BOOK, read_tree(lets + "fun z -> h z"))
        self.assertEqual(len(told[0][1][2][0]), 3 * 64)
        self.assertEqual(len(widest(BOOK, read_tree(lets + "fun z -> h (h z)"))[0][1][2][0]), 3 * 128)
        lets += "let s = fun f -> fun x -> answer f x {plain x -> x; ask x k -> 1} in "
        full = widest(BOOK, read_tree(lets + "fun z -> a (b (h (h z)))"))
        self.assertEqual(len(full[0][1][2][0]), 393)
        self.assertIs(is_kinding(BOOK, full), True)
        checked(self, (TooMany, {"limit": 400}), widest, BOOK, read_tree(lets + "fun z -> s (a (b (h (h z))))"))

    def test_more_open_kinds_than_a_kinding_handed_in_may_have(self):
        tree = ("shape", "Nil", ())
        for _ in range(7):
            self.assertIs(is_kinding(BOOK, widest(BOOK, tree)), True)
            tree = ("shape", "Two", (tree, tree))
        told = [widest(BOOK, tree)[0]]
        for _ in range(7):
            told = [part for kind in told for part in kind[2]]
        self.assertEqual(told, [opt(("open", at)) for at in range(128)])
        self.assertIs(is_kinding(BOOK, widest(BOOK, tree)), False)

    def test_deep_kindings(self):
        def ones(many):
            tree = NUM
            for _ in range(many):
                tree = ("shape", "One", (tree,))
            return tree
        self.assertIsNotNone(widest(BOOK, ones(59)))
        checked(self, (TooMany, {"limit": 60}), widest, BOOK, ones(60))
        self.assertEqual(deeds_left(BOOK, ones(110)), [])
        tree = read_tree("do ask 1")
        for many in range(61):
            if many <= 59:
                self.assertIs(is_kinding(BOOK, widest(BOOK, tree)), True)
            else:
                checked(self, (TooMany, {"limit": 60}), widest, BOOK, tree)
            tree = ("fun", "x", tree)
        twice = read_tree("let a = fun x -> One(One(x)) in let b = fun x -> a (a x) in let c = fun x -> b (b x) in "
                          "let d = fun x -> c (c x) in let e = fun x -> d (d x) in let f = fun x -> e (e x) in f")
        checked(self, (TooMany, {"limit": 60}), widest, BOOK, twice)
        tree = twice
        for name in "gh":
            tree = put_last(tree, ("let", name, read_tree(f"fun x -> {chr(ord(name) - 1)} ({chr(ord(name) - 1)} x)"), ("name", name)))
        self.assertEqual(deeds_left(BOOK, tree), [])

    def test_great_deed_rows(self):
        """Each answerer asks for the deed once more; twice twice and so on, they ask for it far more than 400 times."""
        text = "let a = fun f -> fun x -> answer f x {plain y -> y; ask y k -> k y} in "
        for one, other in zip("abcdefghij", "bcdefghijk"):
            text += f"let {other} = fun z -> {one} ({one} z) in "
        program = read_tree(text + "fun z -> k z")
        checked(self, (TooMany, {"limit": 400}), widest, BOOK, program)
        self.assertEqual(deeds_left(BOOK, program), [])
        few = read_tree(text.split("let e")[0] + "fun z -> d z")
        told = widest(BOOK, few)
        self.assertEqual(told[0][1][2][0], ("ask",) * 8)

    def test_errors(self):
        for value in NO_BOOKS:
            for action in (widest, deeds_left):
                checked(self, InvalidBook, action, value, None)
            checked(self, InvalidBook, has_kinding, value, None, None)
        for value in NO_TREES:
            for action in (widest, deeds_left):
                checked(self, InvalidTree, action, BOOK, value)
            checked(self, InvalidTree, has_kinding, BOOK, value, None)
        for value in NO_PROGRAMS:
            for action in (widest, deeds_left):
                checked(self, InvalidProgram, action, BOOK, value)
            checked(self, InvalidProgram, has_kinding, BOOK, value, None)
        for value in NO_KINDINGS:
            checked(self, InvalidKinding, has_kinding, BOOK, NUM, value)


def put_last(tree, last):
    """The tree with another one for the body of its last let."""
    if tree[0] != "let":
        return last
    return tree[:3] + (put_last(tree[3], last),)


class GuaranteesTest(unittest.TestCase):

    def test_kindings_are_kept_by_steps_and_told_by_ends(self):
        seen = {}
        for program in kinded_programs(38, 120, 4) + let_programs(39, 150, 4):
            if error_of(widest, BOOK, program) is not None or widest(BOOK, program) is None:
                continue
            kinding = widest(BOOK, program)
            for _ in range(25):
                told = step_of(program)
                if told[0] != "step":
                    self.check_end(told, kinding)
                    seen[told[0]] = seen.get(told[0], 0) + 1
                    break
                program = told[2]
                if error_of(widest, BOOK, program) is not None:
                    break
                self.assertIs(has_kinding(BOOK, program, kinding), True)
                self.assertIs(is_instance(BOOK, kinding, widest(BOOK, program)), True)
        self.assertGreater(seen["value"], 40)
        self.assertGreater(seen["unanswered"], 40)

    def check_end(self, end, kinding):
        if end[0] == "unanswered":
            self.assertIn(end[1], kinding[1][0])
        elif end[0] == "value":
            self.assertIs(has_kinding(BOOK, end[1], kinding), True)
        else:
            self.assertIn(end[1], ("match", "great"))
