"""[31], [71]: looking at codes."""

import random
import unittest

from answerers import answerer_programs
from codes import bent_code, code_by_hand, looked_by_hand
from kinded import kinded_programs
from making import A, B, C, checked, programs
from nearanswer.errors import InvalidCode
from nearanswer.flatcode import code_of, is_code
from nearanswer.looking import is_sound, look_at
from nearanswer.texts import read_tree
from test_flatcode import NO_CODES

ONE, TWO, CALL, BIND, LACK, PLAIN, RETURN = ("num", 1), ("num", 2), ("call",), ("bind",), ("lack",), ("plain",), ("return",)
ANY = ("any",)


def run(*orders):
    return (("run", 0, orders),)


def with_blocks(orders, *blocks):
    return (("run", 0, orders),) + blocks


FUN = ("fun", 1, (("get", 0), RETURN))
OWN = ("own", 2, (("get", 1), RETURN))
ROW = ("row", 2, (("get", 0), RETURN))
ANSWER = ("answer", 0, (ONE, PLAIN, BIND, ("get", 0), RETURN))
CALL_FUN = (("fun", 1), ONE, CALL, RETURN)
DO = (("answer", 1, (("ask", 2),)), RETURN)

# Codes, and the blocks, places and words of their first faults.
FAULTS = [
    # Each word by itself.
    (run(("go", 0), RETURN), (0, 0, "to")), (run(ONE, ("go", 1), RETURN), (0, 1, "to")), (run(ONE, ("go", 0), RETURN), (0, 1, "to")),
    (run(ONE, ("go", 3), RETURN), (0, 1, "to")), (run(ONE, ("test", ANY, 1), TWO, RETURN), (0, 1, "to")), (run(ONE, ("test", ANY, 4), TWO, RETURN), (0, 1, "to")),
    (run(("fun", 1), RETURN), (0, 0, "block")), (with_blocks((("fun", 1), RETURN), OWN), (0, 0, "block")), (with_blocks((("own", 1), RETURN), FUN), (0, 0, "block")),
    (with_blocks((("fun", 1), RETURN), ("fun", 2, (ONE, RETURN))), (0, 0, "block")), (with_blocks((("fun", 1), RETURN), ("fun", 0, (ONE, RETURN))), (0, 0, "block")),
    (with_blocks((("own", 1), RETURN), ("own", 1, (ONE, RETURN))), (0, 0, "block")), (with_blocks((("fun", 0), RETURN)), (0, 0, "block")),
    (with_blocks(DO, ANSWER), (0, 0, "block")), (with_blocks(DO, ANSWER, ("row", 1, (ONE, RETURN))), (0, 0, "block")), (with_blocks(DO, ROW, ROW), (0, 0, "block")),
    (with_blocks(DO, ANSWER, FUN), (0, 0, "block")), (with_blocks((("answer", 1, ()), RETURN), ("answer", 1, ANSWER[2])), (0, 0, "block")),
    (with_blocks((("answer", 1, (("ask", 2), ("tell", 3))), RETURN), ANSWER, ROW), (0, 0, "block")),
    (run(CALL, RETURN), (0, 0, "operands")), (run(ONE, CALL, RETURN), (0, 1, "operands")), (run(ONE, ("op", "+"), RETURN), (0, 1, "operands")), (run(BIND, RETURN), (0, 0, "operands")),
    (run(("do", "ask"), RETURN), (0, 0, "operands")), (run(ONE, ("shape", "Two", 2), RETURN), (0, 1, "operands")), (run(("test", ANY, 1), RETURN), (0, 0, "operands")),
    (run(("get", 0), RETURN), (0, 0, "bound")), (run(ONE, BIND, ("get", 1), RETURN), (0, 2, "bound")), (run(ONE, ("free", 1), RETURN), (0, 1, "bound")),
    (run(ONE, BIND, ONE, ("free", 2), RETURN), (0, 3, "bound")), (with_blocks(CALL_FUN, ("fun", 1, (ONE, ("free", 1), RETURN))), (1, 1, "bound")),
    (run(PLAIN, RETURN), (0, 0, "open")), (run(ONE, PLAIN, RETURN), (0, 1, "open")), (with_blocks(DO, ("answer", 0, (PLAIN, BIND, ONE, RETURN)), ROW), (1, 0, "open")),
    (with_blocks(DO, ("answer", 0, (ONE, ONE, PLAIN, BIND, RETURN)), ROW), (1, 2, "open")), (with_blocks(DO, ("answer", 0, (ONE, PLAIN, PLAIN, RETURN)), ROW), (1, 2, "open")),
    (run(RETURN,), (0, 0, "end")), (run(ONE, TWO, RETURN), (0, 2, "end")), (run(ONE,), (0, 0, "end")), (run(ONE, TWO, CALL), (0, 2, "end")),
    (with_blocks(DO, ("answer", 0, (ONE, RETURN)), ROW), (1, 1, "end")), (with_blocks(CALL_FUN, ("fun", 1, (("get", 0),))), (1, 0, "end")),
    (run(ONE, ("test", ANY, 2), RETURN), (0, 1, "ways")), (run(ONE, ("test", ANY, 4), TWO, TWO, RETURN), (0, 3, "ways")), (run(ONE, ("test", ("bind",), 4), TWO, ("go", 4), RETURN), (0, 3, "ways")),
    (run(ONE, ("test", ANY, 5), TWO, TWO, ("go", 6), LACK, RETURN), (0, 6, "end")),
    # The kinds of blocks stand ahead of all else of theirs.
    ((("fun", 0, (RETURN,)),), (0, 0, "block")), ((("run", 1, (ONE, RETURN)),), (0, 0, "block")), (with_blocks((ONE, RETURN), ("run", 0, (ONE, RETURN))), (1, 0, "block")),
    (with_blocks((ONE, RETURN), ("run", 3, (CALL,))), (1, 0, "block")), (with_blocks((RETURN,), ("run", 0, (ONE, RETURN))), (0, 0, "end")),
    # Two faults at once, in an order or of two.
    (run(ONE, ("test", ANY, 0)), (0, 1, "to")), (run(("test", ANY, 0), RETURN), (0, 0, "to")), (run(("fun", 1),), (0, 0, "block")), (run(("get", 0),), (0, 0, "bound")),
    (run(CALL,), (0, 0, "operands")), (run(("free", 1),), (0, 0, "bound")), (run(PLAIN,), (0, 0, "open")), (run(BIND,), (0, 0, "operands")), (run(("do", "ask"),), (0, 0, "operands")),
    (run(("get", 0), CALL), (0, 0, "bound")), (with_blocks((("fun", 1), ("get", 0), RETURN), FUN), (0, 1, "bound")), (with_blocks((ONE, RETURN), ("fun", 3, (CALL,)), ("run", 0, (ONE,))), (1, 0, "operands")),
    (run(ONE, ("test", ("bind",), 4), ("free", 2), ("go", 3), RETURN), (0, 2, "bound")), (run(ONE, ("test", ANY, 3), ("get", 0), LACK, RETURN), (0, 2, "bound")),
]


class LookingTest(unittest.TestCase):

    def test_codes_of_programs_are_sound(self):
        for program in programs(260, 400, 6) + kinded_programs(261, 200, 7) + answerer_programs():
            code = code_by_hand(program)
            told = look_at(code)
            self.assertEqual(told, looked_by_hand(code))
            self.assertEqual(told[0], "sound")
            self.assertIs(is_sound(code), True)
            for (_, _, orders), table in zip(code, told[1]):
                self.assertEqual(len(orders), len(table))
                self.assertNotIn(None, table)

    def test_tables(self):
        self.assertEqual(look_at(code_of(read_tree("match 1 {Two(x, y) -> x; _ -> 2}"))), ("sound", ((
            (0, 0, 0), (1, 0, 0), (0, 2, 0), (1, 2, 0), (1, 0, 0), (1, 0, 0), (0, 0, 0), (1, 0, 0), (1, 0, 0), (1, 0, 0)),)))
        self.assertEqual(look_at(code_of(read_tree("rec f x = x in f 1"))), ("sound", (
            ((0, 0, 0), (1, 0, 0), (0, 1, 0), (1, 1, 0), (2, 1, 0), (1, 1, 0), (1, 0, 0)), ((0, 2, 0), (1, 2, 0)))))
        self.assertEqual(look_at(code_of(read_tree(B)))[1][2], ((0, 2, 0), (1, 2, 0), (2, 2, 0), (1, 2, 0), (2, 2, 0), (3, 2, 0), (2, 2, 0), (1, 2, 0)))

    def test_orders_to_which_none_leads(self):
        """These are left out, whatever they are."""
        self.assertEqual(look_at(run(ONE, RETURN, CALL, ("get", 9), ("go", 0))), ("sound", (((0, 0, 0), (1, 0, 0), None, None, None),)))
        self.assertEqual(look_at(run(ONE, ("go", 3), ("fun", 7), RETURN)), ("sound", (((0, 0, 0), (1, 0, 0), None, (1, 0, 0)),)))
        self.assertEqual(look_at(run(LACK, RETURN)), ("sound", (((0, 0, 0), None),)))
        self.assertEqual(look_at(with_blocks((ONE, RETURN), ("fun", 5, (("get", 4), RETURN)))), ("sound", (((0, 0, 0), (1, 0, 0)), ((0, 5, 0), (1, 5, 0)))))
        self.assertEqual(look_at(run(ONE, ("go", 4), TWO, TWO, RETURN)), ("sound", (((0, 0, 0), (1, 0, 0), None, None, (1, 0, 0)),)))

    def test_faults(self):
        words = {}
        for code, fault in FAULTS:
            self.assertIs(is_code(code), True, code)
            self.assertEqual(look_at(code), looked_by_hand(code))
            self.assertEqual(look_at(code), ("fault",) + fault, code)
            self.assertIs(is_sound(code), False)
            words[fault[2]] = True
        self.assertEqual(sorted(words), ["block", "bound", "end", "open", "operands", "to", "ways"])

    def test_sound_codes_of_no_program(self):
        for code in [run(ONE, TWO, ("shape", "Two", 2), RETURN), run(ONE, BIND, ("get", 0), RETURN), run(ONE, ("go", 2), RETURN), with_blocks(CALL_FUN, FUN),
                     with_blocks((("fun", 1), ("fun", 1), CALL, RETURN), FUN), with_blocks((("answer", 1, (("ask", 2), ("tell", 2))), RETURN), ANSWER, ROW),
                     run(ONE, BIND, ONE, BIND, ("get", 1), ("free", 2), RETURN)]:
            self.assertEqual(look_at(code)[0], "sound", code)
            self.assertEqual(look_at(code), looked_by_hand(code))
            self.assertIs(is_sound(code), True)

    def test_bent_codes(self):
        chance = random.Random(262)
        words = {}
        for program in programs(263, 400, 5) + kinded_programs(264, 100, 5) + [read_tree(text) for text in (A, B, C)] * 20 + answerer_programs():
            code = code_by_hand(program)
            for _ in range(6):
                bent = bent_code(chance, code)
                for _ in range(chance.randrange(2)):
                    bent = bent_code(chance, bent)
                if is_code(bent):
                    told = look_at(bent)
                    self.assertEqual(told, looked_by_hand(bent))
                    self.assertIs(is_sound(bent), told[0] == "sound")
                    words[told[-1] if told[0] == "fault" else "sound"] = words.get(told[-1] if told[0] == "fault" else "sound", 0) + 1
        self.assertEqual(sorted(words), ["block", "bound", "end", "open", "operands", "sound", "to", "ways"])
        self.assertGreater(min(words.values()), 20)

    def test_no_codes(self):
        for value in NO_CODES:
            checked(self, InvalidCode, look_at, value)
            checked(self, InvalidCode, is_sound, value)
