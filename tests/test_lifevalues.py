"""[90]: programs as values."""

import unittest

from jobs import plain_programs
from making import NO_NAMES, NO_PROGRAMS, NO_TREES, NUM, A, B, C, X, checked, error_of, nested, programs, sized
from nearanswer.errors import InvalidName, InvalidNumber, InvalidPath, InvalidProgram, InvalidText, InvalidTree, InvalidValue, TooMany
from nearanswer.lifemoves import moved, next_word
from nearanswer.lifevalues import Code
from nearanswer.names import are_alike, with_plain_names
from nearanswer.rewriting import is_value
from nearanswer.runs import course_of
from nearanswer.texts import read_tree, tree_text
from nearanswer.trees import all_paths, part_at, tree_depth, tree_size
from test_refusals import NO_PATHS
from test_talks import NO_VALUES

NO_CODES = [None, 1, True, NUM, "1", (), [NUM], (NUM,), {}, object, read_tree(A)]
TEXTS = ["1", "fun x -> x", "fun y -> y", "(fun x -> x) 1", "Two(1, fun x -> x)", "do ask 2", A, B, C, "fun x -> x + 1", "let x = do tell 1 in do ask x", "(1 + 2) * 3"]


def some_codes(seed=520, many=40):
    return [Code(program) for program in programs(seed, many, 4) + plain_programs() + [read_tree(text) for text in TEXTS]]


def add(one, other):
    return one + other


def take(one, other):
    return one - other


def times(one, other):
    return one * other


def put_on(one, other):
    one += other
    return one


def call(one, other):
    return one(other)


def answer(one, other):
    return one | other


def behind(one, many):
    return one >> many


def part(one, path):
    return one[path]


class LifeValuesTest(unittest.TestCase):

    def test_programs_and_properties(self):
        words = set()
        for code in some_codes():
            program = code.tree
            self.assertEqual(Code(program).tree, program)
            self.assertEqual(code.word, next_word(program))
            deeds = [part_at(program, path)[1] for path in all_paths(program) if part_at(program, path)[0] == "do"]
            self.assertEqual(code.deeds, tuple(sorted(set(deeds))))
            self.assertEqual((str(code), len(code), bool(code)), (tree_text(program), len(all_paths(program)), not is_value(program)))
            words.add(code.word)
        self.assertEqual(words, {None, "call", "deed", "let", "match", "op", "plain", "rec"})
        self.assertEqual(Code.read("do b 1 + do a 2 + answer do c 3 {plain x -> fun y -> do b 1; d x k -> do e 1}").deeds, ("a", "b", "c", "e"))
        self.assertEqual((Code(NUM).deeds, Code(NUM).word, len(Code(NUM)), bool(Code(NUM)), bool(Code.read("do ask 1"))), ((), None, 1, False, True))

    def test_properties_are_read_alone(self):
        code = Code.read(A)
        for name in ("tree", "word", "deeds"):
            with self.assertRaises(AttributeError):
                setattr(code, name, None)
            self.assertIsInstance(vars(Code)[name], property)
        self.assertIsInstance(vars(Code)["read"], classmethod)
        for name in ("__init__", "__call__", "__add__", "__sub__", "__mul__", "__iadd__", "__or__", "__rshift__", "__invert__", "__getitem__", "__contains__", "__len__", "__bool__", "__str__", "__iter__", "__eq__"):
            self.assertIn(name, vars(Code))

    def test_texts(self):
        for text in TEXTS:
            self.assertEqual(Code.read(text).tree, read_tree(text))
            self.assertEqual(Code.read("# so\n (" + text + ") ").tree, read_tree(text))
        for value in (None, 1, NUM, b"1", ["1"], True):
            checked(self, (InvalidText, {"at": 0}), Code.read, value)
        for text in ("1 +", "?", "1 1 )", "rec f f = 1 in 1", "(" * 90, "match 1 {}"):
            self.assertEqual(error_of(Code.read, text), error_of(read_tree, text))
        for text in ("x", "fun x -> y", "let x = x in 1"):
            checked(self, InvalidProgram, Code.read, text)

    def test_ops_and_calls(self):
        codes = some_codes(521, 12)
        for one, other in zip(codes, codes[3:] + codes[:3]):
            a, b = one.tree, other.tree
            self.assertEqual(call(one, other).tree, ("call", a, b))
            self.assertEqual([told(one, other).tree for told in (add, take, times)], [("op", sign, a, b) for sign in "+-*"])
            self.assertEqual((one.tree, other.tree), (a, b))
            self.assertIsInstance(one + other, Code)
        one = Code.read("1")
        self.assertEqual([told(one, one).tree for told in (call, add)], [("call", NUM, NUM), ("op", "+", NUM, NUM)])

    def test_wrong_others(self):
        code = Code.read(A)
        for value in NO_CODES + NO_TREES:
            for told in (call, add, take, times, put_on):
                checked(self, InvalidProgram, told, code, value)
        self.assertEqual(code.tree, read_tree(A))

    def test_too_great(self):
        size, deep = Code(sized(1499)), Code(nested(118))
        for told in (call, add, take, times):
            self.assertEqual(tree_size(told(size, Code(sized(1500))).tree), 3000)
            self.assertEqual(tree_depth(told(Code(NUM), deep).tree), 120)
            for one, other in ((size, Code(sized(1501))), (Code(nested(119)), Code(NUM)), (Code(NUM), Code(nested(119)))):
                checked(self, InvalidTree, told, one, other)
        one = Code(sized(1499))
        checked(self, InvalidTree, put_on, one, Code(sized(1501)))
        self.assertEqual(one.tree, sized(1499))
        one += Code(sized(1500))
        self.assertEqual(tree_size(one.tree), 3000)
        self.assertEqual(tree_size(answer(Code(sized(2995)), ("ask", NUM)).tree), 3000)
        checked(self, InvalidTree, answer, Code(sized(2996)), ("ask", NUM))
        checked(self, InvalidTree, answer, Code(NUM), ("ask", nested(118)))
        checked(self, InvalidValue, answer, Code(sized(2996)), ("ask", X))

    def test_in_place(self):
        """The object itself is another one then, by each of its names."""
        one = Code.read("1")
        same, other, before = one, Code.read("1"), one.tree
        one += Code.read("2")
        self.assertIs(one, same)
        self.assertEqual((same.tree, other.tree, before), (("op", "+", NUM, ("num", 2)), NUM, NUM))
        one += one
        self.assertEqual(same.tree, ("op", "+", ("op", "+", NUM, ("num", 2)), ("op", "+", NUM, ("num", 2))))
        self.assertEqual((same.word, len(same), bool(same), (same >> 9).tree), ("op", 7, True, ("num", 6)))
        with self.assertRaises(InvalidProgram):
            one += 1
        self.assertIs(one, same)
        made = other + other
        other += Code.read("3")
        self.assertEqual(made.tree, ("op", "+", NUM, NUM))

    def test_answerers(self):
        for code in some_codes(522, 10):
            for deed, value in (("ask", NUM), ("a", read_tree("Two(1, fun x -> x)"))):
                self.assertEqual((code | (deed, value)).tree, moved((code.tree, 0, ()), ("answer", deed, value))[0])
        code = Code.read("do ask 1")
        for value in (None, 1, "ask", (), ("ask",), ("ask", NUM, NUM), ["ask", NUM], NUM, (1, 2), {}, code):
            if not (isinstance(value, tuple) and len(value) == 2 and value[0] == "num"):
                checked(self, InvalidName, answer, code, value)
        for name in NO_NAMES:
            checked(self, InvalidName, answer, code, (name, None))
        for value in NO_VALUES:
            checked(self, InvalidValue, answer, code, ("ask", value))
        # A tree is a pair, too: that of a name, and of what is no value.
        checked(self, InvalidValue, answer, code, NUM)

    def test_steps(self):
        for code in some_codes(523, 30):
            for many in (0, 1, 2, 9, 40):
                told = error_of(course_of, code.tree, many)
                if told:
                    self.assertEqual(error_of(behind, code, many), told)
                else:
                    self.assertEqual((code >> many).tree, course_of(code.tree, many)[-1])
        loop = Code.read("rec f x = f x in f 1")
        self.assertEqual((loop >> 400).tree, (loop >> 200 >> 200).tree)
        for value in [401, -1, True, False, None, "9", 9.0, (9,), 10 ** 100, loop]:
            checked(self, InvalidNumber, behind, loop, value)
        great = Code(("let", "x", sized(1000), ("shape", "Row", (X,) * 4)))
        checked(self, (TooMany, {"limit": 3000}), behind, great, 1)
        checked(self, InvalidNumber, behind, great, 401)
        self.assertEqual((great >> 0).tree, great.tree)
        checked(self, (TooMany, {"limit": 120}), behind, Code(("let", "y", nested(60), nested(60, ("name", "y")))), 400)

    def test_plain_names(self):
        for code in some_codes(524, 20):
            self.assertEqual((~code).tree, with_plain_names(code.tree))
            self.assertTrue(code == ~code)

    def test_parts_and_paths(self):
        for code in some_codes(525, 15):
            paths = all_paths(code.tree)
            for path in paths:
                self.assertEqual(code[path], part_at(code.tree, path))
                self.assertIs(path in code, True)
                self.assertEqual((path + (9,) in code, list(path) in code), (False, False))
            for value in NO_PATHS + [(-1,), (True,), (False,), "x", 0, code, None]:
                if not (isinstance(value, tuple) and all(type(index) is int for index in value) and value in paths):
                    self.assertIs(value in code, False)
                    checked(self, InvalidPath, part, code, value)

    def test_iterating(self):
        code = Code.read("Two(1, 2)")
        for action in (iter, list, tuple, sorted, set, sum, max, lambda one: [*one], lambda one: [path for path in one]):
            self.assertRaises(TypeError, action, code)

    def test_alike_codes(self):
        codes = some_codes(526, 15)
        for one in codes:
            for other in codes:
                self.assertIs(one == other, are_alike(one.tree, other.tree))
                self.assertIs(one != other, not are_alike(one.tree, other.tree))
            for value in NO_CODES + [one.tree, str(one)]:
                self.assertEqual((one == value, value == one, one != value), (False, False, True))
        self.assertTrue(Code.read("fun x -> fun y -> x") == Code.read("fun y -> fun x -> y"))
        self.assertFalse(Code.read("fun x -> fun y -> x") == Code.read("fun y -> fun x -> x"))

    def test_wrong_arguments(self):
        for value in NO_TREES + [Code(NUM)]:
            checked(self, InvalidTree, Code, value)
        for value in NO_PROGRAMS:
            checked(self, InvalidProgram, Code, value)


if __name__ == "__main__":
    unittest.main()
