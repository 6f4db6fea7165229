"""[27], [28], [70]: codes, and the codes of programs."""

import random
import unittest

from answerers import answerer_programs
from codes import NO_ORDERS, bent_code, code_by_hand
from kinded import kinded_programs
from making import A, B, C, NO_PROGRAMS, NO_TREES, NUM, X, checked, error_of, nested, programs, sized
from nearanswer.errors import InvalidCode, InvalidProgram, InvalidTree, TooMany
from nearanswer.flatcode import code_of, is_code, program_of_code
from nearanswer.names import are_alike, bound_names, with_plain_names
from nearanswer.texts import read_tree
from nearanswer.trees import is_tree, tree_size

RETURN = ("return",)
NO_CODES = [
    None, (), [], "code", 1, ("run", 0, (RETURN,)), [("run", 0, (RETURN,))], (["run", 0, (RETURN,)],), (("run", 0, [RETURN]),), (("run", 0, ()),),
    (("run", 0),), (("run", 0, (RETURN,), 1),), (("main", 0, (RETURN,)),), ((["run"], 0, (RETURN,)),), (("run", -1, (RETURN,)),), (("run", 1000, (RETURN,)),),
    (("run", True, (RETURN,)),), (("run", None, (RETURN,)),), (("run", 0, (RETURN,) * 1001),), (("run", 0, (RETURN,)),) * 1001, (("run", 0, (RETURN,)), None),
    (("run", 0, RETURN),), (("run", 0, (("call",), RETURN)), ("fun", 1)),
] + [(("run", 0, (order, RETURN)),) for order in NO_ORDERS] + [(("run", 0, (RETURN,)), ("row", 2, (RETURN, order))) for order in NO_ORDERS]


def some_programs():
    return programs(250, 500, 5) + kinded_programs(251, 200, 6) + answerer_programs() + [read_tree(text) for text in (A, B, C)]


def flat_nested(depth):
    pattern = ("any",)
    for _ in range(depth - 1):
        pattern = ("shapeis", "One", (pattern,))
    return pattern


def wide_pattern(size):
    """A flat pattern of this size."""
    if size <= 5:
        return ("shapeis", "Row", (("bind",),) * (size - 1))
    share, more = divmod(size - 1, 4)
    return ("shapeis", "Row", tuple(wide_pattern(share + (1 if at < more else 0)) for at in range(4)))


def binding(low, high):
    """A pattern that binds the names with numbers from one to another."""
    if high - low == 1:
        return ("bind", "n" + "".join(chr(97 + low // 26 ** place % 26) for place in (2, 1, 0)))
    cuts = sorted({low + (high - low) * share // 4 for share in range(5)})
    return ("shapeis", "Row", tuple(binding(*pair) for pair in zip(cuts, cuts[1:])))


class FlatCodeTest(unittest.TestCase):

    def test_orders(self):
        orders = [
            ("num", -10 ** 12), ("num", 10 ** 12), ("get", 0), ("get", 999), ("fun", 0), ("fun", 999), ("own", 0), ("own", 999), ("call",), ("bind",), ("free", 1),
            ("free", 999), ("shape", "Two", 0), ("shape", "Two", 4), ("op", "+"), ("op", "="), ("test", ("any",), 0), ("test", ("bind",), 999), ("test", ("numis", -1), 3),
            ("test", ("shapeis", "Two", (("bind",), ("bind",))), 3), ("lack",), ("go", 0), ("go", 999), ("do", "ask"), ("answer", 0, ()), ("answer", 999, (("ask", 999),)),
            ("answer", 1, tuple((deed, 1) for deed in "abcdef")), ("plain",), RETURN, ("test", flat_nested(120), 1), ("test", wide_pattern(3000), 1)]
        for order in orders:
            self.assertIs(is_code((("run", 0, (order,)),)), True, order)
        for kind in ("run", "fun", "own", "row", "answer"):
            for given in (0, 999):
                self.assertIs(is_code(((kind, given, tuple(orders)),)), True)
        self.assertIs(is_code((("run", 0, (RETURN,)),) * 1000), True)
        self.assertIs(is_code((("run", 0, (RETURN,) * 1000),)), True)
        for pattern in (flat_nested(121), wide_pattern(3001), flat_nested(299)):
            self.assertIs(is_code((("run", 0, (("test", pattern, 1),)),)), False)

    def test_no_codes(self):
        for value in NO_CODES:
            self.assertIs(is_code(value), False, value)
            checked(self, InvalidCode, program_of_code, value)

    def test_codes_of_programs(self):
        for program in some_programs():
            if tree_size(program) <= 400:
                code = code_of(program)
                self.assertEqual(code, code_by_hand(program))
                self.assertIs(is_code(code), True)
                self.assertEqual(program_of_code(code), with_plain_names(program))

    def test_small_codes(self):
        run = ("run", 0)
        for text, code in [
                ("1", (run + ((("num", 1), RETURN),),)), ("No()", (run + ((("shape", "No", 0), RETURN),),)),
                ("Two(1, 2)", (run + ((("num", 1), ("num", 2), ("shape", "Two", 2), RETURN),),)),
                ("fun x -> fun y -> x y", (run + ((("fun", 1), RETURN),), ("fun", 1, (("fun", 2), RETURN)), ("fun", 2, (("get", 1), ("get", 0), ("call",), RETURN)))),
                ("let x = 1 in let y = x in x", (run + ((("num", 1), ("bind",), ("get", 0), ("bind",), ("get", 1), ("free", 1), ("free", 1), RETURN),),)),
                ("rec f x = f x in f 1", (run + ((("own", 1), ("bind",), ("get", 0), ("num", 1), ("call",), ("free", 1), RETURN),),
                                          ("own", 2, (("get", 1), ("get", 0), ("call",), RETURN)))),
                ("do ask (1 < 2)", (run + ((("num", 1), ("num", 2), ("op", "<"), ("do", "ask"), RETURN),),)),
                ("match 1 {Two(x, y) -> x; 0 -> 5; z -> z}", (run + ((
                    ("num", 1), ("test", ("shapeis", "Two", (("bind",), ("bind",))), 5), ("get", 1), ("free", 2), ("go", 13),
                    ("test", ("numis", 0), 8), ("num", 5), ("go", 13), ("test", ("bind",), 12), ("get", 0), ("free", 1), ("go", 13), ("lack",), RETURN),),)),
                ("match 1 {_ -> match 2 {_ -> 3}}", (run + ((
                    ("num", 1), ("test", ("any",), 8), ("num", 2), ("test", ("any",), 6), ("num", 3), ("go", 7), ("lack",), ("go", 9), ("lack",), RETURN),),))]:
            self.assertEqual(code_of(read_tree(text)), code)

    def test_blocks_stand_in_the_order_of_the_text(self):
        program = read_tree("let f = fun a -> a in answer (fun b -> b) 1 {plain x -> fun c -> x; ask e k -> fun d -> k; tell e k -> rec g h = h in g} f")
        code = code_of(program)
        self.assertEqual([block[:2] for block in code],
                         [("run", 0), ("fun", 1), ("answer", 1), ("fun", 2), ("fun", 3), ("row", 3), ("fun", 4), ("row", 3), ("own", 5)])
        self.assertEqual(code[0][2], (("fun", 1), ("bind",), ("answer", 2, (("ask", 5), ("tell", 7))), ("get", 0), ("call",), ("free", 1), RETURN))
        self.assertEqual(code[2][2], (("fun", 3), ("num", 1), ("call",), ("plain",), ("bind",), ("fun", 4), RETURN))
        self.assertEqual(code[5][2], (("fun", 6), RETURN))
        self.assertEqual(code[6][2], (("get", 1), RETURN))

    def test_names_bound_again(self):
        self.assertEqual(code_of(read_tree("fun x -> fun x -> x"))[2][2][0], ("get", 0))
        self.assertEqual(code_of(read_tree("let x = 1 in let y = let x = 2 in x in x"))[0][2],
                         (("num", 1), ("bind",), ("num", 2), ("bind",), ("get", 0), ("free", 1), ("bind",), ("get", 1), ("free", 1), ("free", 1), RETURN))

    def test_same_code_just_if_alike(self):
        told = [program for program in some_programs() if tree_size(program) <= 60]
        codes = {}
        for program in told:
            codes.setdefault(code_of(program), []).append(program)
        for alike in codes.values():
            for program in alike:
                self.assertIs(are_alike(program, alike[0]), True)
        firsts = [alike[0] for alike in codes.values()]
        for one, other in zip(firsts, firsts[1:]):
            self.assertIs(are_alike(one, other), False)
        for program in told:
            self.assertEqual(code_of(with_plain_names(program)), code_of(program))
        for one, other in [("fun x -> fun y -> x", "fun x -> fun y -> y"), ("match 1 {_ -> 1}", "match 1 {x -> 1}"),
                           ("rec f x = f in 1", "rec f x = x in 1"), ("answer 1 {plain x -> x; ask x k -> x}", "answer 1 {plain x -> x; ask x k -> k}")]:
            self.assertNotEqual(code_of(read_tree(one)), code_of(read_tree(other)))

    def test_bent_codes(self):
        """A code that is bent is that of the program that is told, or of none."""
        chance = random.Random(252)
        told = [0, 0]
        for program in some_programs():
            if tree_size(program) <= 80:
                for _ in range(6):
                    bent = bent_code(chance, code_of(program))
                    if is_code(bent):
                        found = program_of_code(bent)
                        told[found is not None] += 1
                        if found is not None:
                            self.assertEqual(with_plain_names(found), found)
                            self.assertEqual(code_by_hand(found), bent)
        self.assertGreater(min(told), 60)

    def test_bent_numbers_tags_and_deeds(self):
        """These are the only things that can be changed at one place without losing the program."""
        code = code_of(read_tree(A))
        bent = code[:1] + (("answer", 0, (("num", 9),) + code[1][2][1:]),) + code[2:]
        self.assertEqual(program_of_code(bent), with_plain_names(read_tree(A.replace("1 + 2", "9 + 2"))))
        bent = (("run", 0, (("answer", 1, (("tell", 2),)), RETURN)),) + code[1:]
        self.assertEqual(program_of_code(bent), with_plain_names(read_tree(A.replace("; ask", "; tell"))))

    def test_codes_of_no_program(self):
        run = ("run", 0)
        inner = ("fun", 1, (("get", 0), RETURN))
        for code in [
                (run + ((RETURN,),),), (run + ((("num", 1), ("num", 2), RETURN),),), (run + ((("num", 1),),),), (run + ((("lack",),),),),
                (run + ((("num", 1), RETURN, RETURN),),), (run + ((("call",), RETURN),),), (run + ((("get", 0), RETURN),),), (("fun", 0, (("num", 1), RETURN)),),
                (("run", 1, (("num", 1), RETURN)),), (run + ((("fun", 1), RETURN),),), (run + ((("fun", 0), RETURN),),), (run + ((("fun", 1), RETURN),), inner, inner),
                (run + ((("num", 1), RETURN),), inner), (run + ((("fun", 2), RETURN),), inner, inner), (run + ((("fun", 1), ("fun", 1), ("call",), RETURN),), inner),
                (run + ((("fun", 1), RETURN),), ("fun", 2, inner[2])), (run + ((("fun", 1), RETURN),), ("own", 1, inner[2])), (run + ((("num", 1), ("bind",), RETURN),),),
                (run + ((("num", 1), ("bind",), ("get", 0), RETURN),),), (run + ((("num", 1), ("bind",), ("get", 0), ("free", 2), RETURN),),),
                (run + ((("num", 1), ("bind",), ("num", 2), ("bind",), ("get", 0), ("free", 2), RETURN),),), (run + ((("own", 1), ("bind",), ("num", 1), ("free", 1), RETURN),),),
                (run + ((("own", 1), RETURN),), ("own", 2, (("num", 1), RETURN))), (run + ((("num", 1), ("go", 2), RETURN),),), (run + ((("num", 1), ("free", 1), RETURN),),),
                (run + ((("num", 1), ("test", ("any",), 4), ("num", 3), ("go", 4), RETURN),),), (run + ((("num", 1), ("test", ("any",), 2), ("lack",), RETURN),),),
                (run + ((("num", 1), ("test", ("bind",), 4), ("num", 3), ("go", 5), ("lack",), RETURN),),), (run + ((("answer", 1, ()), RETURN),),),
                (run + ((("num", 1), ("test", ("any",), 4), ("num", 3), ("go", 4), ("lack",), RETURN),),), (run + ((("num", 1), ("plain",), RETURN),),),
                (run + ((("answer", 1, ()), RETURN),), ("answer", 0, (("num", 1), RETURN))), (run + ((("answer", 1, ()), RETURN),), ("answer", 0, (("num", 1), ("plain",), RETURN))),
                (run + ((("answer", 1, (("ask", 1),)), RETURN),), ("answer", 0, (("num", 1), ("plain",), ("bind",), ("num", 1), RETURN))),
                (run + ((("do", "ask"), RETURN),),), (run + ((("num", 1), ("shape", "Two", 2), RETURN),),), (run + ((("num", 1), ("op", "+"), RETURN),),)]:
            self.assertIs(is_code(code), True, code)
            self.assertIsNone(program_of_code(code), code)
        fine = (run + ((("num", 1), ("test", ("any",), 4), ("num", 3), ("go", 5), ("lack",), RETURN),),)
        self.assertEqual(program_of_code(fine), read_tree("match 1 {_ -> 3}"))

    def test_codes_that_lead_back_upon_themselves(self):
        """Such codes are told to be none of a program at once."""
        many = tuple(("test", ("any",), at + 1) for at in range(900))
        self.assertIsNone(program_of_code((("run", 0, (("num", 1),) + many + (RETURN,)),)))
        both = (("fun", 1), ("fun", 1), ("call",), RETURN)
        self.assertIsNone(program_of_code((("run", 0, both),) + tuple(("fun", at, (("fun", at + 1), ("fun", at + 1), ("call",), RETURN)) for at in range(1, 900))))
        chain = tuple(("fun", at, (("fun", at + 1), RETURN)) for at in range(1, 999)) + (("fun", 999, (("num", 1), RETURN)),)
        self.assertIsNone(program_of_code((("run", 0, (("fun", 1), RETURN)),) + chain))
        lets = (("num", 1),) + (("bind",), ("num", 1)) * 300 + (("free", 1),) * 300 + (RETURN,)
        self.assertIsNone(program_of_code((("run", 0, lets),)))
        calls = (("num", 1),) + (("num", 1), ("call",)) * 499 + (RETURN,)
        self.assertIsNone(program_of_code((("run", 0, calls),)))
        patterns = tuple(("test", wide_pattern(2900), at) for at in range(200))
        self.assertIsNone(program_of_code((("run", 0, (("num", 1),) + patterns + (RETURN,)),)))
        self.assertIsNone(program_of_code((("run", 0, (("num", 1),) * 1000),)))

    def test_great_and_deep_programs(self):
        for depth in (119, 120):
            code = code_by_hand(nested(depth))
            self.assertEqual(program_of_code(code), with_plain_names(nested(119)) if depth == 119 else None)
        great = ("shape", "Row", tuple(("let", "x", sized(180), ("call", X, sized(180))) for _ in range(2)))
        self.assertEqual(program_of_code(code_by_hand(great)), with_plain_names(great))
        deep = NUM
        for at in range(118):
            rows = (("ask", "e", "k", deep),)
            deep = [("let", "x", deep, NUM), ("let", "x", NUM, deep), ("rec", "f", "x", deep, NUM), ("rec", "f", "x", NUM, deep), ("fun", "x", deep),
                    ("match", deep, ((("any",), NUM),)), ("match", NUM, ((("any",), deep),)), ("answer", deep, ("x", NUM), ()), ("answer", NUM, ("x", deep), ()),
                    ("answer", NUM, ("x", NUM), rows), ("do", "ask", deep), ("shape", "One", (deep,))][at % 12]
        self.assertIs(is_tree(deep), True)
        self.assertEqual(program_of_code(code_of(deep)), with_plain_names(deep))
        rows = tuple((deed, "e", "k", NUM) for deed in "abcdef")
        many_names = NUM
        for many in (256, 256, 256, 256, 64, 64, 64):
            many_names = ("match", many_names, ((binding(0, many), NUM),))
        for _ in range(71):
            many_names = ("answer", many_names, ("x", ("answer", NUM, ("x", NUM), rows)), rows)
        self.assertIs(is_tree(many_names), True)
        self.assertGreater(len(bound_names(many_names)), 3000)
        self.assertEqual(program_of_code(code_by_hand(many_names)), with_plain_names(many_names))

    def test_deepest_programs(self):
        """Each form as deep as can be, and codes of what would be deeper than any tree, by far, too."""
        for form in [
                lambda one: ("let", "x", one, NUM), lambda one: ("let", "x", NUM, one), lambda one: ("rec", "f", "x", one, NUM), lambda one: ("rec", "f", "x", NUM, one),
                lambda one: ("fun", "x", one), lambda one: ("match", one, ((("any",), NUM),)), lambda one: ("match", NUM, ((("bind", "x"), one), (("any",), NUM))),
                lambda one: ("answer", one, ("x", NUM), ()), lambda one: ("answer", NUM, ("x", one), (("ask", "e", "k", ("name", "k")),)),
                lambda one: ("answer", NUM, ("x", NUM), (("ask", "e", "k", one),)), lambda one: ("call", one, NUM), lambda one: ("shape", "Two", (NUM, one)),
                lambda one: ("do", "ask", one), lambda one: ("op", "+", NUM, one)]:
            deep = NUM
            for depth in range(2, 170):
                deep = form(deep)
                if depth == 119 or depth == 120:
                    self.assertEqual(program_of_code(code_by_hand(deep)), with_plain_names(deep))
                elif depth in (121, 122, 169):
                    code = code_by_hand(deep)
                    if is_code(code):
                        self.assertIsNone(program_of_code(code))

    def test_sizes_of_400_and_401(self):
        self.assertEqual(code_of(sized(400)), code_by_hand(sized(400)))
        checked(self, (TooMany, {"limit": 400}), code_of, sized(401))
        checked(self, InvalidProgram, code_of, ("op", "+", sized(500), X))
        widest = NUM
        for _ in range(29):
            widest = ("match", widest, tuple((("bind", "x"), NUM) for _ in range(6)))
        self.assertEqual(tree_size(widest), 378)
        self.assertIs(is_code(code_of(widest)), True)

    def test_wrong_arguments(self):
        for value in NO_TREES:
            checked(self, InvalidTree, code_of, value)
        for value in NO_PROGRAMS:
            checked(self, InvalidProgram, code_of, value)
        for program in programs(253, 30, 6):
            if error_of(code_of, program) is None:
                self.assertLessEqual(tree_size(program), 400)
