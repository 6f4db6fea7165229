"""[8], [55]: tokens, texts, reading, and of the guarantees that the text of a short tree is read as this tree."""

import random
import unittest

import earley
from nearanswer.errors import InvalidText, InvalidTree
from nearanswer.texts import read_tree, tokens_of, tree_text
from nearanswer.trees import tree_depth, tree_size
from making import A, B, BARRED, C, NO_TREES, NUM, X, checked, error_of, nested, sized, trees

SIGNS = ["->", "(", ")", "{", "}", ",", ";", "=", "<", "+", "-", "*", "_"]


def at(index):
    return (InvalidText, {"at": index})


class TokensTest(unittest.TestCase):

    def test_all_tokens(self):
        for token in SIGNS + list(BARRED) + ["x", "abcdefgh", "T", "Abcdefgh", "0", "10", "9" * 30]:
            self.assertEqual(tokens_of(token), [(0, token)])
            self.assertEqual(tokens_of(" " + token + "\n"), [(1, token)])

    def test_blanks_and_remarks(self):
        self.assertEqual(tokens_of(""), [])
        self.assertEqual(tokens_of(" \n #x->\n  "), [])
        self.assertEqual(tokens_of("#"), [])
        self.assertEqual(tokens_of("x#y\nz # \x00\t"), [(0, "x"), (4, "z")])
        self.assertEqual(tokens_of("x # a # b\ny"), [(0, "x"), (10, "y")])

    def test_tokens_without_blanks(self):
        self.assertEqual(tokens_of("a->b"), [(0, "a"), (1, "->"), (3, "b")])
        self.assertEqual(tokens_of("--->"), [(0, "-"), (1, "-"), (2, "->")])
        self.assertEqual(tokens_of("x-1"), [(0, "x"), (1, "-"), (2, "1")])
        self.assertEqual(tokens_of("T(_,_)"), [(0, "T"), (1, "("), (2, "_"), (3, ","), (4, "_"), (5, ")")])
        self.assertEqual(tokens_of("_a_"), [(0, "_"), (1, "a"), (2, "_")])

    def test_wrong_tokens(self):
        for text, index in [
                ("x !", 2), ("x\ty", 1), ("- >", 2), (">", 0), ("x 01", 2), ("00", 0), ("abcdefghi", 0), ("x ab1", 2),
                ("1a", 0), ("TT", 0), ("aB", 0), ("Abcdefghi", 0), ("A1", 0), ("x\n\n  #!\n ?", 9), ("x.y", 1), ("'", 0),
                ("0x", 0), ("1_", None), ("x\r\n", 1), ("\u00e9", 0), ("\u00b2", 0), ("a\u00e9", 1), ("!", 0), ("a\"", 1), ("x[", 1)]:
            if index is None:
                self.assertEqual(tokens_of(text), [(0, "1"), (1, "_")])
            else:
                checked(self, at(index), tokens_of, text)
                checked(self, at(index), read_tree, text)

    def test_no_strings(self):
        for value in (None, 1, True, b"x", ["x"], ("x",), X):
            checked(self, at(0), tokens_of, value)
            checked(self, at(0), read_tree, value)

    def test_the_list_is_new(self):
        tokens_of("x y").append(1)
        self.assertEqual(tokens_of("x y"), [(0, "x"), (2, "y")])


class TextsTest(unittest.TestCase):

    def test_texts(self):
        for text in [
                "1", "(-5)", "x", "fun x -> x", "fun x -> fun y -> x + y", "let x = fun y -> y in x", "rec f x = f x in f 1",
                "Two(1, No())", "Two(fun x -> x, 1 < 2)", "match 1 < 2 {Yes() -> 1; No() -> fun x -> x}",
                "match f x {Two(_, (-1)) -> 1; 0 -> 2; y -> y; _ -> 1}", "1 + 2 < 3", "1 - 2 = 3", "1 = 2 - 3", "1 * 2 < 3 * 4", "1 * 2 + 3", "1 * 2 - 3 * 4", "1 * 2 * 3", "f 1 * 2", "2 * f 1", "f 1 + f 2", "f 1 < f 2", "1 + 2 + 3 - 4", "do ask 1 * do ask 2", "(1 < 2) * 3", "(fun x -> x) * 3", "(fun x -> x) + 3", "(fun x -> x) < 3", "3 < (fun x -> x)", "3 * (fun x -> x)", "f (f x)", "f (1 * 2)", "(1 * 2) 3", "(1 - 2) * (3 + 4)", "1 + 2 - 3", "1 - (2 - 3)", "1 + 2 * 3", "(1 + 2) * 3",
                "1 * (2 * 3)", "1 < 2 + 3", "(1 < 2) < 3", "1 < (2 = 3)", "f x y", "f (x y)", "f (-1)", "do ask 1 + 2",
                "do ask (1 + 2)", "do ask (do ask 1)", "do ask x y", "do ask (x y)", "f (do ask 1)", "do ask f 1",
                "(fun x -> x) 1", "(let x = 1 in x) + 1", "1 + (fun x -> x)", "f (fun x -> x)", "f match x {_ -> 1} No()",
                "answer 1 {plain x -> x}", "answer answer 1 {plain x -> x} {plain y -> y; ask x k -> k x; tell x k -> 1}",
                "match match 1 {_ -> 2} {_ -> 3}", "let x = let y = 1 in y in x", "let x = 1 = 2 in x", "1 = 1",
                "rec f x = fun y -> y in fun z -> z", "(fun x -> x) = 1", "(1 < 2) + 1", "match x {Two() -> 1}", A, B, C]:
            self.assertEqual(tree_text(read_tree(text)), text)

    def test_readings(self):
        self.assertEqual(read_tree("1 - 2 - 3"), ("op", "-", ("op", "-", NUM, ("num", 2)), ("num", 3)))
        self.assertEqual(read_tree("1 - 2 * 3"), ("op", "-", NUM, ("op", "*", ("num", 2), ("num", 3))))
        self.assertEqual(read_tree("1 < 2 - 3"), ("op", "<", NUM, ("op", "-", ("num", 2), ("num", 3))))
        self.assertEqual(read_tree("f x y"), ("call", ("call", ("name", "f"), X), ("name", "y")))
        self.assertEqual(read_tree("do ask x y"), ("call", ("do", "ask", X), ("name", "y")))
        self.assertEqual(read_tree("fun x -> x 1"), ("fun", "x", ("call", X, NUM)))
        self.assertEqual(read_tree("( (x) )"), X)
        self.assertEqual(read_tree("(-\n12)"), ("num", -12))
        self.assertEqual(read_tree("match x{_->1;(-2)->2;T((-3),_,y)->y}"), (
            "match", X, ((("any",), NUM), (("numis", -2), ("num", 2)),
                         (("shapeis", "T", (("numis", -3), ("any",), ("bind", "y"))), ("name", "y")))))
        self.assertEqual(read_tree("#a\nx #b"), X)
        self.assertEqual(read_tree("1000000000000"), ("num", 10 ** 12))
        self.assertEqual(read_tree("(-1000000000000)"), ("num", -10 ** 12))

    def test_texts_are_read_as_their_trees(self):
        for seed, depth in ((5, 3), (6, 4), (7, 6)):
            for tree in trees(seed, 80, depth):
                text = tree_text(tree)
                if error_of(read_tree, text) is None:
                    self.assertEqual(read_tree(text), tree)
                else:
                    self.assertFalse(is_short(tree), text)

    def test_texts_have_blanks_just_where_they_must(self):
        for tree in trees(8, 80):
            text = tree_text(tree)
            told = [token for _, token in tokens_of(text)]
            made = ""
            for index, token in enumerate(told):
                behind = told[index - 1] if index else "("
                is_below = behind == "-" and index > 1 and told[index - 2] == "(" and token[0].isdigit()
                is_shape = token == "(" and behind[0].isupper()
                glued = behind in ("(", "{") or token in (")", "}", ",", ";") or is_below or is_shape
                made += token if glued else " " + token
            self.assertEqual(text, made)

    def test_parentheses_are_only_where_they_must_be(self):
        for tree in trees(9, 40, 3):
            text = tree_text(tree)
            tokens = tokens_of(text)
            for index, (begin, token) in enumerate(tokens):
                if token == "(" and not (index and tokens[index - 1][1][0].isupper()) and tokens[index + 1][1] != "-":
                    end = close_of(tokens, index)
                    without = text[:begin] + " " + text[begin + 1:end] + " " + text[end + 1:]
                    if error_of(read_tree, without) is None:
                        self.assertNotEqual(read_tree(without), tree, text)


def close_of(tokens, index):
    deep = 0
    for begin, token in tokens[index:]:
        deep += (token == "(") - (token == ")")
        if deep == 0:
            return begin
    return None


def is_short(tree):
    """The words of [5], told by the text: each of the words and signs stands for a tree."""
    words = [token for _, token in tokens_of(tree_text(tree))]
    scopes = len([word for word in words if word in ("fun", "let", "rec", "match", "answer")])
    return tree_size(tree) <= 400 and tree_depth(tree) <= 40 and scopes <= 60


class ReadingTest(unittest.TestCase):

    def test_index_of_errors(self):
        for text, index in [
                ("", 0), ("  ", 2), ("# x", 3), ("1 +", 3), ("1 + # y", 7), (")", 0), ("x )", 2), ("fun", 3), ("fun 1", 4),
                ("fun fun", 4), ("fun x y", 6), ("let x = 1", 9), ("let x = 1 + in", 12), ("let x 1", 6), ("rec f = 1", 6),
                ("1 < 2 < 3", 6), ("1 = 2 < 3", 6), ("1 + fun x -> x", 4), ("f do ask 1", 2), ("do ask do ask 1", 7),
                ("do 1", 3), ("do Ask 1", 3), ("T", 1), ("T 1", 2), ("T(1,)", 4), ("T(1 2", 5), ("T(,", 2), ("(-0)", 2),
                ("(-x)", 2), ("(- 5 + 1)", 5), ("-5", 0), ("(5", 2), ("(", 1), ("()", 1), ("match x {}", 9),
                ("match x {_ -> 1;}", 16), ("match x {-5 -> 1}", 9), ("match x {(5) -> 1}", 10), ("match x {(x) -> 1}", 10),
                ("match x {T -> 1}", 11), ("match x {T(_,) -> 1}", 13), ("match x {T(fun)}", 11), ("match x {1 = 1}", 11),
                ("match x _", 8), ("answer x {}", 10), ("answer x {ask x k -> 1}", 10), ("answer x {plain x -> x;}", 23),
                ("answer x {plain x -> x; ask x -> 1}", 30), ("answer x {plain x -> x; plain x -> 1}", 24), ("x = = 1", 4),
                ("answer x {plain x k -> x}", 18), ("x in", 2), ("x _", 2), ("_", 0), ("1 ; 2", 2), ("x -> 1", 2), ("in", 0),
                ("plain", 0), ("do ask fun x -> x", 7), ("f let x = 1 in x", 2), ("1 * - 2", 4), ("(-5 5)", 4), ("(x", 2)]:
            checked(self, at(index), read_tree, text)

    def test_index_of_errors_by_all_rules(self):
        chance = random.Random(10)
        words = SIGNS + list(BARRED) + ["x", "f", "T", "0", "7"] * 3 + ["(", ")", ";", "}", "->", "in"] * 2
        texts = [tree_text(tree) for tree in trees(11, 150, 3)]
        seen = {True: 0, False: 0}
        for text in texts:
            tokens = [token for _, token in tokens_of(text)]
            if len(tokens) > 60:
                continue
            for _ in range(4):
                changed = list(tokens)
                spot = chance.randrange(len(changed) + 1)
                changed[spot:spot + chance.randrange(2)] = [chance.choice(words) for _ in range(chance.randrange(2))]
                self.check_by_all_rules(changed, seen)
        for _ in range(300):
            self.check_by_all_rules([chance.choice(words) for _ in range(chance.randrange(6))], seen)
        self.assertGreater(min(seen.values()), 50)

    def check_by_all_rules(self, tokens, seen):
        text = " ".join(tokens)
        many, whole = earley.reach(tokens)
        told = error_of(read_tree, text)
        seen[whole] += 1
        if whole:
            self.assertTrue(told is None or told[0] is InvalidTree, text)
        else:
            index = tokens_of(text)[many][0] if many < len(tokens) else len(text)
            self.assertEqual(told, at(index), text)

    def test_bounds_of_trees(self):
        for text in [
                "1000000000001", "(-1000000000001)", "9" * 3900, "(-" + "9" * 3900 + ")", "match x {1000000000001 -> 1}",
                "T(1, 2, 3, 4, 5)", "match x {T(_, _, _, _, _) -> 1}", "match x {1 -> 1; 2 -> 2; 3 -> 3; 4 -> 4; 5 -> 5; 6 -> 6; 7 -> 7}",
                "rec f f = 1 in f", "match x {T(x, x) -> 1}", "match x {T(x, T(x)) -> 1}", "answer x {plain x -> x; ask k k -> k}",
                "answer x {plain x -> x; ask x k -> k; ask y l -> l}",
                "answer x {plain x -> x" + "".join(f"; {deed} x k -> k" for deed in "abcdefg") + "}"]:
            checked(self, InvalidTree, read_tree, text)
        self.assertIsNone(error_of(read_tree, "answer x {plain x -> x" + "".join(f"; {deed} x k -> k" for deed in "abcdef") + "}"))
        self.assertIsNone(error_of(read_tree, "match x {1 -> 1; 2 -> 2; 3 -> 3; 4 -> 4; 5 -> 5; 6 -> 6}"))
        # The text is read to its end before its tree is looked at.
        checked(self, at(19), read_tree, "rec f f = 1 in f 5 fun")

    def test_short_trees(self):
        def sums(many):
            return " + ".join(["1"] * many)

        def row(many):
            return "T(" + ", ".join(f"T({sums(20)})" for _ in range(many)) + ")"
        self.assertEqual(tree_depth(read_tree(sums(40))), 40)
        checked(self, InvalidTree, read_tree, sums(41))
        checked(self, InvalidTree, read_tree, sums(1900))
        self.assertEqual(tree_size(read_tree(tree_text(sized(400)))), 400)
        checked(self, InvalidTree, read_tree, tree_text(sized(401)))
        self.assertEqual(tree_depth(read_tree(tree_text(nested(39)))), 40)
        checked(self, InvalidTree, read_tree, tree_text(nested(40)))
        self.assertEqual(tree_size(read_tree("T(" + row(3) + ", " + row(3) + ", 1)")), 1 + 2 * (1 + 3 * 40) + 1)

    def test_bound_of_words(self):
        def lets(many):
            return "T(" + ", ".join("T(" + ", ".join("let x = 1 in x" for _ in range(share)) + ")" for share in many) + ")"

        def four(many):
            shares = [lets([4, 4, 4, 3])] * (many // 15)
            return "T(" + ", ".join(shares + (["fun x -> x"] if many % 15 else [])) + ")"
        self.assertEqual(four(60).count("let"), 60)
        self.assertIsNone(error_of(read_tree, four(60)))
        # One word more is refused, though the tree would break no rule of [5]; so is one that is no text.
        wide = "U(" + four(60) + ", fun x -> x)"
        checked(self, InvalidTree, read_tree, wide)
        checked(self, InvalidTree, read_tree, "fun " * 61)
        checked(self, at(4), read_tree, "fun " * 60)
        checked(self, at(4 * 61), read_tree, "fun " * 61 + "!")
        checked(self, at(2), read_tree, "x" + " in do plain" * 70)
        for word in ("fun", "let", "rec", "match", "answer"):
            checked(self, InvalidTree, read_tree, ") " + (word + " ") * 61)
            checked(self, at(0), read_tree, ") " + (word + " ") * 60)

    def test_bound_of_brackets(self):
        self.assertEqual(read_tree("(" * 80 + "x" + ")" * 80), X)
        checked(self, InvalidTree, read_tree, "(" * 81 + "x" + ")" * 81)
        checked(self, InvalidTree, read_tree, "(" * 81)
        checked(self, at(80), read_tree, "(" * 80)
        checked(self, at(1), read_tree, "({" * 40)
        checked(self, InvalidTree, read_tree, "({" * 40 + "(")
        # A closing bracket takes back one that is open, of whatever sort, if there is any.
        checked(self, at(0), read_tree, ")" * 5 + "(" * 80)
        checked(self, InvalidTree, read_tree, ")" * 5 + "(" * 81)
        checked(self, at(0), read_tree, "{}" + "(" * 80)
        checked(self, at(1), read_tree, "(}" + "(" * 80)
        checked(self, InvalidTree, read_tree, "(}" + "(" * 81)
        checked(self, at(81), read_tree, "(" * 81 + "!")
        checked(self, InvalidTree, read_tree, "((}" + "(" * 80)
        checked(self, at(2), read_tree, "((}" + "(" * 79)
        deep = "match " * 59 + "(" * 79 + "x" + ")" * 79 + " {_ -> 1}" * 59
        checked(self, InvalidTree, read_tree, deep)
        shapes = "T(" * 80 + "x" + ")" * 80
        checked(self, InvalidTree, read_tree, shapes)
        self.assertIsNotNone(error_of(read_tree, "match T(" * 60 + "x" + ") {_ -> 1}" * 60))

    def test_wrong_trees(self):
        for value in NO_TREES:
            checked(self, InvalidTree, tree_text, value)

    def test_great_trees_have_texts(self):
        self.assertEqual(len(tokens_of(tree_text(sized(3000)))), len(tree_text(sized(3000)).replace(" ", "").replace("Row", "R")))
        self.assertEqual(tree_text(nested(119)), "fun x -> " * 119 + "1")
        deep = X
        for _ in range(119):
            deep = ("answer", NUM, ("x", X), (("ask", "x", "k", deep),))
        self.assertTrue(tree_text(deep).endswith("}" * 119))
