"""[48], [85]: row values, and the texts of the library."""

import unittest

from answerers import ANSWERS, CHOICES, FAULTS, FIRST, HANDED, READING, STATE
from jobs import DEEDS, jobs, plain_programs
from making import NO_NAMES, NO_PROGRAMS, NO_TREES, NUM, A, B, C, X, checked, nested, programs, sized
from nearanswer.errors import InvalidName, InvalidProgram, InvalidTree, InvalidValue
from nearanswer.library import (done_anew, row_items, row_value, with_choices, with_faults, with_first, with_reading, with_rows, with_state, with_turns,
                                written_down)
from nearanswer.names import is_program
from nearanswer.rewriting import is_value
from nearanswer.runs import run_of
from nearanswer.texts import read_tree, tree_text
from nearanswer.trees import is_tree, tree_depth, tree_size
from test_talks import NO_VALUES

END = ("shape", "End", ())
TURNS = ("rec next q = match q {End() -> End(); Row(f, c) -> f c} in rec push q = fun f -> match q {End() -> Row(f, End()); Row(g, c) -> Row(g, push c f)} in next LINE")
WRITTEN = "(answer ONE {plain x -> fun l -> Pair(x, l); DEED v k -> fun l -> let w = do DEED v in k w Row(w, l)}) End()"
ANEW = "(answer ONE {plain x -> fun l -> x; DEED v k -> fun l -> match l {End() -> let w = do DEED v in k w l; Row(w, c) -> k w c}}) VALUE"
VALUES = [NUM, ("num", -5), END, read_tree("Row(4, Row(5, End()))"), ("fun", "x", X), read_tree("Pair(fun x -> x, No())")]
ONES = [with_faults, with_rows, with_choices, with_first]


def some_programs():
    told = [program for kind in DEEDS for program in jobs(460, kind, 6)] + plain_programs() + [read_tree(text) for text in (A, B, C)] + programs(461, 20, 3)
    return [program for program in told if tree_size(program) < 100]


def told(text, one, value=NUM, deed="ask"):
    return read_tree(text.replace("DEED", deed).replace("ONE", "(" + tree_text(one) + ")").replace("VALUE", "(" + tree_text(value) + ")"))


def turns(ones):
    line = "End()"
    for one in ones[::-1]:
        line = "Row(fun r -> (answer (" + tree_text(one) + ") " + ANSWERS + ") r, " + line + ")"
    return read_tree(TURNS.replace("LINE", line))


def row_by_hand(values):
    return ("shape", "Row", (values[0], row_by_hand(values[1:]))) if values else END


class LibraryTest(unittest.TestCase):

    def test_texts(self):
        for at, one in enumerate(some_programs()):
            value = VALUES[at % len(VALUES)]
            row = row_value(tuple(VALUES[:at % 4]))
            deed = ("ask", "v", "w", "deed", "answers", "k")[at % 6]
            self.assertEqual(with_state(value, one), told(STATE, one, value))
            self.assertEqual(with_faults(one), told(FAULTS, one))
            self.assertEqual(with_rows(one), told(HANDED, one))
            self.assertEqual(with_choices(one), told(CHOICES, one))
            self.assertEqual(with_first(one), told(FIRST, one))
            self.assertEqual(with_reading(value, one), told(READING, one, value))
            self.assertEqual(written_down(deed, one), told(WRITTEN, one, deed=deed))
            self.assertEqual(done_anew(deed, row, one), told(ANEW, one, row, deed))

    def test_turns(self):
        ones = some_programs()
        for at in range(len(ones) - 4):
            for many in range(1, 5):
                if sum(tree_size(one) for one in ones[at:at + many]) < 200:
                    self.assertEqual(with_turns(tuple(ones[at:at + many])), turns(ones[at:at + many]))
        self.assertEqual(with_turns((NUM, NUM, NUM, NUM)), turns([NUM] * 4))

    def test_all_are_programs(self):
        for one in some_programs():
            for tree in [action(one) for action in ONES] + [with_state(NUM, one), with_turns((one, one)), with_reading(NUM, one), written_down("ask", one), done_anew("ask", END, one)]:
                self.assertTrue(is_program(tree))

    def test_programs_with_shapes_like_those_that_stand_for_them(self):
        """What is put in is put in as it is, whatever stands in it."""
        for one in (read_tree("One(1)"), read_tree("One()"), read_tree("Two(Value(), Jobs())"), read_tree("Jobs()"), read_tree("fun x -> Value()")):
            self.assertEqual(with_faults(one), told(FAULTS, one))
            self.assertEqual(with_state(read_tree("One()"), one), told(STATE, one, read_tree("One()")))
            self.assertEqual(with_reading(read_tree("Value()"), one), told(READING, one, read_tree("Value()")))
            self.assertEqual(with_turns((one, NUM)), turns([one, NUM]))
            self.assertEqual(done_anew("deed", row_value((read_tree("One()"),)), one), told(ANEW, one, row_value((read_tree("One()"),)), "deed"))

    def test_row_values(self):
        for many in (0, 1, 2, 5, 39, 40):
            values = tuple((VALUES * 7)[:many])
            self.assertEqual(row_value(values), row_by_hand(values))
            self.assertEqual(row_items(row_value(values)), values)
            self.assertTrue(is_value(row_value(values)))
        checked(self, InvalidValue, row_value, (NUM,) * 41)
        self.assertEqual(row_items(row_by_hand((NUM,) * 41)), (NUM,) * 41)
        self.assertEqual(row_items(row_by_hand((NUM,) * 119)), (NUM,) * 119)

    def test_what_is_no_row_value(self):
        for text in ("1", "fun x -> x", "Row()", "Row(1)", "Row(1, 2)", "Row(1, 2, End())", "End(1)", "Row(1, End(2))", "Row(1, Row(2, 3))", "Pair(1, End())", "Row(1, Row(End()))", "No()"):
            self.assertIs(row_items(read_tree(text)), None, text)
            checked(self, InvalidValue, done_anew, "ask", read_tree(text), None)
        self.assertEqual(row_items(END), ())
        self.assertEqual(row_items(read_tree("Row(End(), Row(Row(1, End()), End()))")), (END, read_tree("Row(1, End())")))
        checked(self, InvalidValue, done_anew, "ask", row_by_hand((NUM,) * 41), None)
        self.assertTrue(is_program(done_anew("ask", row_value((NUM,) * 40), NUM)))

    def test_small_runs(self):
        first, second = read_tree("let a = do say 1 in let b = do turn 0 in do say 2"), read_tree("do say 3")
        two = row_value((("num", 10), ("num", 20)))
        for tree, shown in (
                (with_state(("num", 3), read_tree("let a = do get 0 in let b = do put (a + 2) in a + do get 0")), ("Pair", (8, 5))),
                (with_faults(read_tree("3 + 1")), ("Good", (4,))),
                (with_faults(read_tree("1 + do fault 7")), ("Bad", (7,))),
                (with_rows(read_tree("do hand 1 + do hand 2")), ("Row", (1, ("Row", (2, ("End", (3,))))))),
                (with_choices(read_tree("do pick 2 + do pick 2")), ("Row", (0, ("Row", (1, ("Row", (1, ("Row", (2, ("End", ())))))))))),
                (with_choices(read_tree("do fail 0")), ("End", ())),
                (with_first(read_tree("do fail 0")), ("End", ())),
                (with_first(read_tree("1 + do pick 3")), ("Good", (1,))),
                (with_turns((first, second)), ("Row", (1, ("Row", (3, ("Row", (2, ("End", ())))))))),
                (with_reading(row_value((NUM,)), read_tree("do next 0 + do next 0")), ("End", ())),
                (done_anew("ask", two, read_tree("do ask 1 - do ask 2")), -10)):
            self.assertEqual(run_of(tree, 400)[0], ("value", shown))
        self.assertEqual(run_of(written_down("ask", read_tree("do ask 1 + do ask 2")), 400)[0], ("unanswered", "ask", 1))
        self.assertEqual(run_of(done_anew("ask", row_value((NUM,)), read_tree("do ask 1 + do ask 2")), 400)[0], ("unanswered", "ask", 2))

    def test_great_trees(self):
        own = tree_size(with_faults(NUM)) - 1
        self.assertEqual(tree_size(with_faults(sized(3000 - own))), 3000)
        checked(self, InvalidTree, with_faults, sized(3001 - own))
        self.assertEqual(tree_depth(with_faults(nested(118))), 120)
        checked(self, InvalidTree, with_faults, nested(119))
        great, deep = sized(2999), nested(119)
        for tree in (great, deep):
            for action in ONES:
                checked(self, InvalidTree, action, tree)
            for action, arguments in ((with_state, (NUM, tree)), (with_turns, ((NUM, tree),)), (with_reading, (NUM, tree)), (written_down, ("ask", tree)), (done_anew, ("ask", END, tree))):
                checked(self, InvalidTree, action, *arguments)
        checked(self, InvalidTree, with_state, sized(2999), NUM)
        checked(self, InvalidTree, with_reading, deep, NUM)
        checked(self, InvalidTree, with_turns, (sized(1000),) * 3)
        checked(self, InvalidTree, row_value, (sized(100),) * 40)
        checked(self, InvalidTree, row_value, (deep,))
        self.assertTrue(is_tree(row_value((nested(118),))))
        checked(self, InvalidTree, row_value, (nested(117), nested(118)))
        self.assertTrue(is_tree(row_value((sized(73),) * 40)))
        self.assertEqual(40 * 74 + 1, tree_size(row_value((sized(73),) * 40)))
        checked(self, InvalidTree, done_anew, "ask", row_value((sized(73),) * 40), sized(100))

    def test_wrong_arguments(self):
        for value in NO_VALUES:
            for action, more in ((with_state, (None,)), (with_reading, (None,)), (row_items, ())):
                checked(self, InvalidValue, action, value, *more)
            checked(self, InvalidValue, row_value, (NUM, value))
            checked(self, InvalidValue, done_anew, "ask", value, None)
        for value in (None, [], [NUM], NUM, 1, "x", (NUM,) * 41, {}, True):
            checked(self, InvalidValue, row_value, value)
        for error, values in ((InvalidTree, NO_TREES), (InvalidProgram, NO_PROGRAMS)):
            for value in values:
                for action in ONES:
                    checked(self, error, action, value)
                checked(self, error, with_state, NUM, value)
                checked(self, error, with_reading, NUM, value)
                checked(self, error, written_down, "ask", value)
                checked(self, error, done_anew, "ask", END, value)
                checked(self, InvalidProgram, with_turns, (NUM, value))
        for value in (None, (), [NUM], NUM, (NUM,) * 5, 1, "x", ((NUM,),), True):
            checked(self, InvalidProgram, with_turns, value)
        for value in NO_NAMES:
            checked(self, InvalidName, written_down, value, None)
            checked(self, InvalidName, done_anew, value, None, None)


if __name__ == "__main__":
    unittest.main()
