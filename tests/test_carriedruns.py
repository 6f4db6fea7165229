"""[22], [65]: runs of carried programs, beside runs of their flat forms."""

import unittest

from answerers import TOLD, TEXTS
from kinded import kinded_programs
from making import NO_PROGRAMS, NO_TREES, NUM, A, B, C, checked, programs
from model import Model, TooLong
from nearanswer.carried import carried_of
from nearanswer.carriedruns import run_carried, words_carried
from nearanswer.errors import InvalidCarried, InvalidNumber, TooMany
from nearanswer.flatforms import flat_form
from nearanswer.names import with_plain_names
from nearanswer.runs import run_of, words_of
from nearanswer.texts import read_tree
from nearanswer.trees import tree_size

LOOP = carried_of(read_tree("rec a b = a b in a 1"))
LIMIT = (TooMany, {"limit": 3000})
DEEP = (TooMany, {"limit": 120})


def flat_programs():
    told = programs(210, 400, 5) + kinded_programs(211, 250, 4) + [read_tree(text) for text in TEXTS]
    return [flat_form(program) for program in told if tree_size(program) <= 100]


def carried_text(text):
    """The carried form of a flat tree, the text of which may have any names."""
    return carried_of(with_plain_names(read_tree(text)))


class Lines:
    """Lines of lets that build shapes, each name a new one."""

    def __init__(self):
        self.heads = []
        self.sizes = []

    def new(self, one, size):
        name = "x" + "abcdefghijklmnopqrstuvwxyz"[len(self.heads) % 26] + "abcdefghijklmnopqrstuvwxyz"[len(self.heads) // 26]
        self.heads.append((name, one))
        self.sizes.append(size)
        return name

    def shape(self, *parts):
        """A shape of names and numbers, of the names of shapes told before."""
        sizes = dict(zip([name for name, _ in self.heads], self.sizes))
        trees = tuple(NUM if part == 1 else ("name", part) for part in parts)
        return self.new(("shape", "Row", trees), 1 + sum(sizes.get(part, 1) for part in parts))

    def carried(self, body, around=()):
        for name, one in self.heads[::-1]:
            body = ("let", name, one, body)
        for name, one in around:
            body = ("let", name, one, body)
        return carried_of(with_plain_names(body))


def sized_lines(size, first=NUM):
    """Lines whose last name is a shape of this size, of a first thing of the size 1, and that name."""
    lines = Lines()
    name = lines.new(first, 1)
    name = lines.shape(name, name, 1, 1)
    known = [(5, name)]
    while 2 * known[-1][0] + 1 <= size:
        name = lines.shape(name, name)
        known.append((lines.sizes[-1], name))
    while lines.sizes[-1] + 6 <= size:
        fitting = [told for told in known if lines.sizes[-1] + told[0] + 1 <= size]
        name = lines.shape(name, fitting[-1][1])
    while lines.sizes[-1] < size:
        name = lines.shape(name)
    return lines, name


def lets(form, many):
    """The text of lets of the names "ob", "oc" and so on, each a shape around the one ahead, "oa" for the first one."""
    return "".join(f"let o{there} = {form.replace('_', 'o' + here)} in " for here, there in zip("abcdefghi", "bcdefghij"[:many]))


def deep_carried(inner, many, form="One(_)", end="_"):
    """The carried form of a program that makes a shape of a depth of 113 and so many, around what has the depth 1."""
    made = f"match x {{0 -> {inner}; _ -> let y = x - 1 in let oa = f y in {lets(form, 8)}oi}}"
    last = end.replace("_", "o" + "abcdefghij"[many])
    return carried_text(f"rec f x = {made} in let oa = f 14 in {lets(form, many)}{last}")


class CarriedRunsTest(unittest.TestCase):

    def test_runs_of_flat_programs(self):
        """As many steps as by slow rewriting, with the same shown end; the words differ in "let" for "rec" alone."""
        ends = {}
        for flat in flat_programs():
            carried = carried_of(flat)
            for most in (0, 1, 2, 7, 120):
                try:
                    end, many, _ = run_of(flat, most)
                    words = words_of(flat, most)
                except TooMany:
                    continue
                self.assertEqual(run_carried(carried, most), (end, many))
                self.assertEqual(words_carried(carried, most), ["let" if word == "rec" else word for word in words])
                ends[end[0]] = ends.get(end[0], 0) + 1
        self.assertEqual(sorted(ends), ["more", "stuck", "unanswered", "value"])
        self.assertGreater(min(ends.values()), 100)

    def test_ends_of_programs(self):
        """A program and its flat form come to the same shown end."""
        for text, end in TOLD:
            if tree_size(read_tree(text)) <= 100:
                told = run_carried(carried_of(flat_form(read_tree(text))), 400)
                self.assertEqual(told[0], end, text)

    def test_ends_of_the_plain_model(self):
        for flat in flat_programs():
            model = Model(2000)
            try:
                end = model.end(flat)
                told = run_carried(carried_of(flat), 400)[0]
            except (TooLong, TooMany, RecursionError):
                continue
            if told != ("more",):
                self.assertEqual(told, end)

    def test_words(self):
        for text, words in [
                ("1", []), ("let a = 1 in a", ["let"]), ("fun a -> a", []), ("let a = fun b -> b in a 1", ["let", "call"]),
                ("let a = Two(1, 2) in match a {Two(b, c) -> b + c}", ["let", "match", "op"]),
                ("answer do ask 1 {plain a -> a; ask b c -> c b}", ["deed", "call", "plain"]),
                ("answer let a = do ask 1 in a + 1 {plain b -> b; ask c d -> let e = d c in d e}",
                 ["deed", "call", "let", "op", "plain", "let", "call", "let", "op", "plain"]),
                ("rec a b = match b {0 -> 7; _ -> a 0} in a 1", ["let", "call", "let", "match", "call", "let", "match"])]:
            self.assertEqual(words_carried(carried_of(read_tree(text)), 400), words, text)

    def test_a_block_is_given_to_its_own_name(self):
        carried = carried_of(read_tree("rec a b = b in a 5"))
        self.assertEqual(words_carried(carried, 9), ["let", "call", "let"])
        self.assertEqual(run_carried(carried, 9), (("value", 5), 3))
        self.assertEqual(run_carried(carried, 2), (("more",), 2))
        unused = carried_of(read_tree("let a = fun b -> b in a 5"))
        self.assertEqual(words_carried(unused, 9), ["let", "call"])

    def test_deeds_that_nobody_answers(self):
        for text, end in [
                ("do ask 5", (("unanswered", "ask", 5), 0)), ("let a = do ask 5 in a", (("unanswered", "ask", 5), 0)),
                ("answer do ask 5 {plain a -> a; tell b c -> b}", (("unanswered", "ask", 5), 0)),
                ("let a = fun b -> b in let c = One(a) in do ask c", (("unanswered", "ask", ("One", ("fun",))), 2)),
                ("answer do ask 1 {plain a -> a; ask b c -> do ask c}", (("unanswered", "ask", "fun"), 1)),
                ("answer answer do ask 1 {plain a -> a; ask b c -> do tell b} {plain d -> d; ask e f -> f e}", (("unanswered", "tell", 1), 1))]:
            self.assertEqual(run_carried(carried_text(text), 400), end, text)

    def test_stuck(self):
        for text, end in [
                ("1 2", ("stuck", "call")), ("let a = One(1) in a 2", ("stuck", "call")), ("match 1 {2 -> 3}", ("stuck", "match")),
                ("let a = fun b -> b in match a {0 -> 1; Two(c, d) -> 2}", ("stuck", "match")), ("let a = One(1) in a + 1", ("stuck", "number")),
                ("let a = fun b -> b in 1 < a", ("stuck", "number")), ("1000000000000 * 2", ("stuck", "great")), ("1000000000000 = 2", ("value", ("No", ()))),
                ("let a = fun b -> b in match a {c -> One(c)}", ("value", ("One", ("fun",))))]:
            self.assertEqual(run_carried(carried_of(read_tree(text)), 400)[0], end, text)

    def test_a_size_that_is_just_let(self):
        lines, name = sized_lines(3000)
        carried = lines.carried(("name", name))
        many = len(lines.heads)
        end, steps = run_carried(carried, 400)
        self.assertEqual((end[0], steps), ("value", many))
        for most in (many - 1, many):
            lines, name = sized_lines(3000)
            lines.shape(name)
            self.assertEqual(run_carried(lines.carried(NUM), most - 1), (("more",), most - 1))
        checked(self, LIMIT, run_carried, lines.carried(NUM), 400)
        checked(self, LIMIT, words_carried, lines.carried(NUM), 400)

    def test_shapes_behind_the_last_step(self):
        """A shape is made as soon as the run comes to it, so that its error comes with the step ahead of it."""
        lines, name = sized_lines(2999)
        many = len(lines.heads)
        row = ("shape", "Row", (("name", name), NUM))
        for body in (row, ("let", "y", row, NUM), ("let", "y", row, ("call", NUM, NUM)), ("answer", row, ("y", NUM), ())):
            carried = lines.carried(body)
            self.assertEqual(run_carried(carried, many - 1), (("more",), many - 1))
            checked(self, LIMIT, run_carried, carried, many)
            checked(self, LIMIT, words_carried, carried, many)
            checked(self, LIMIT, run_carried, carried, 400)
        fitting = lines.carried(("let", "y", ("shape", "Row", (("name", name),)), NUM))
        self.assertEqual(run_carried(fitting, many), (("more",), many))
        self.assertEqual(run_carried(fitting, many + 1), (("value", 1), many + 1))
        behind = lines.carried(("match", NUM, (((("any",)), row),)))
        self.assertEqual(run_carried(behind, many), (("more",), many))
        checked(self, LIMIT, run_carried, behind, many + 1)

    def test_shapes_ahead_of_the_first_step(self):
        self.assertEqual(run_carried(carried_of(read_tree("let a = Two(1, 2) in a")), 0), (("more",), 0))
        self.assertEqual(run_carried(carried_of(read_tree("Two(1, 2)")), 0), (("value", ("Two", (1, 2))), 0))

    def test_a_depth_that_is_just_let(self):
        for inner in ("1", "No()", "f", "fun w -> Two(x, w)", "answer do ask 1 {plain p -> p; ask e k -> k}"):
            end, _ = run_carried(deep_carried(inner, 7), 400)
            self.assertEqual(end[0], "value")
            depth = 1
            shown = end[1]
            while isinstance(shown, tuple) and shown[1]:
                depth += 1
                shown = shown[1][0]
            self.assertEqual(depth, 120)
            checked(self, DEEP, run_carried, deep_carried(inner, 8), 400)
            checked(self, DEEP, words_carried, deep_carried(inner, 8), 400)

    def test_both_bounds(self):
        """Of a shape that is too great, and too deep, too, its size is told."""
        form = "Row(_, 1, 1, 1)"
        self.assertEqual(run_carried(deep_carried("1", 6, form, "Row(_, _, _, _)"), 400)[0][0], "value")
        checked(self, DEEP, run_carried, deep_carried("1", 7, form, "One(_)"), 400)
        checked(self, DEEP, run_carried, deep_carried("1", 6, form, "let ok = Row(_, _, _, _) in One(ok)"), 400)
        checked(self, LIMIT, run_carried, deep_carried("1", 6, form, "let ok = Row(_, _, _, _) in Two(ok, ok)"), 400)

    def test_blocks_and_rests_count_as_one(self):
        great = ("fun", "w", ("shape", "Row", (("name", "w"),) * 4))
        for first in (great, ("answer", ("do", "ask", NUM), ("p", ("name", "p")), (("ask", "e", "k", ("name", "k")),))):
            lines = Lines()
            name = lines.new(first, 1)
            five = lines.shape(name, name, name, name)
            name = five
            while lines.sizes[-1] * 4 + 1 <= 3000:
                name = lines.shape(name, name, name, name)
            name = lines.shape(name, name)
            while lines.sizes[-1] + 6 <= 3000:
                name = lines.shape(name, five)
            while lines.sizes[-1] < 3000:
                name = lines.shape(name)
            self.assertEqual(lines.sizes[-1], 3000)
            self.assertEqual(run_carried(lines.carried(("name", name)), 400)[0][0], "value")
            lines.shape(name)
            checked(self, LIMIT, run_carried, lines.carried(NUM), 400)

    def test_steps_that_are_let(self):
        self.assertEqual(run_carried(LOOP, 400), (("more",), 400))
        self.assertEqual(len(words_carried(LOOP, 400)), 400)
        for most in (401, -1, True, False, None, "4", 4.0, (4,)):
            checked(self, InvalidNumber, run_carried, LOOP, most)
            checked(self, InvalidNumber, words_carried, LOOP, most)

    def test_wrong_arguments(self):
        for value in NO_TREES + NO_PROGRAMS + [read_tree(A), ((), ("make", 0)), [(), NUM], ((), NUM, 1), ((("", (), "b", ("name", "b")),), ("make", 0))]:
            for most in (4, None, -1):
                checked(self, InvalidCarried, run_carried, value, most)
                checked(self, InvalidCarried, words_carried, value, most)

    def test_long_lines_of_waiting_lets(self):
        """Lets that wait do not nest calls."""
        text = "rec a b = match b {0 -> 0; _ -> let c = b - 1 in let d = a c in b + d} in a 40"
        self.assertEqual(run_carried(carried_of(read_tree(text)), 400), (("value", 820), run_of(read_tree(text), 400)[1]))
        for text in (A, B, C):
            flat = flat_form(read_tree(text))
            self.assertEqual(run_carried(carried_of(flat), 400), run_of(flat, 400)[:2])
