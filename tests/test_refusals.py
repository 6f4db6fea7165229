"""[15], [60]: programs kinded at lots of paths, refusal lots."""

import random
import unittest

from kinded import BOOK, kinded_programs, let_programs
from kindmodel import told_widest
from making import NO_PROGRAMS, NO_TREES, NUM, X, checked, error_of, programs
from nearanswer.errors import InvalidBook, InvalidPaths, InvalidProgram, InvalidTree, TooMany
from nearanswer.refusals import is_refusal_lot, kinded_at, refusal_lot
from nearanswer.texts import read_tree
from nearanswer.trees import all_paths, tree_size
from test_books import NO_BOOKS

NO_PATHS = [None, 1, [], [()], (1,), ((), ()), ((0,), ()), ([],), ((5,),), ((True,),), ((0,), (False,)), (None,), ("",), ((0, 0, 0),),
            (((),),), ((-1,),), ((1,), (0,)), ((), (0,), (0,))]


def at(text, *paths):
    return kinded_at(BOOK, read_tree(text), paths)


class KindedAtTest(unittest.TestCase):

    def test_rules_that_are_left_out(self):
        for text, paths, told in [
                ("1 2", ((), (0,)), False), ("1 2", ((),), True), ("1 2", ((0,),), True), ("1 2", ((0,), (1,)), True), ("1 2", ((), (1,)), True),
                ("do cry 1", ((),), False), ("do cry 1", ((0,),), True), ("Cry()", ((),), False), ("Cry()", (), True),
                ("match 1 {Cry() -> 1}", ((),), False), ("match 1 {Cry() -> 1}", ((0,), (1,)), True), ("match Yes() {1 -> 1}", ((),), True),
                ("match Yes() {1 -> 1}", ((), (0,)), False), ("match 1 {1 -> 1; 2 -> No()}", ((), (1,), (2,)), False),
                ("match 1 {1 -> 1; 2 -> No()}", ((), (1,)), True), ("answer 1 {plain x -> x; cry x k -> 1}", ((),), False),
                ("answer 1 {plain x -> x; ask x k -> No()}", ((), (0,), (1,), (2,)), False),
                ("answer 1 {plain x -> x; ask x k -> No()}", ((), (0,), (1,)), True),
                ("answer 1 {plain x -> x; ask x k -> No()}", ((), (1,), (2,)), True), ("One(1, 2)", ((),), False),
                ("answer 1 {plain x -> x; ask x k -> k No()}", ((2,), (2, 0), (2, 1)), True),
                ("answer 1 {plain x -> x; ask x k -> k No()}", ((), (2,), (2, 0), (2, 1)), False)]:
            self.assertIs(at(text, *paths), told, (text, paths))

    def test_names_of_parts_that_are_left_out(self):
        # The name of a function that is not in the lot can have another kind at each place.
        self.assertIs(at("fun x -> x x", (), (0,), (0, 0), (0, 1)), False)
        self.assertIs(at("fun x -> x x", (0,), (0, 0), (0, 1)), True)
        self.assertIs(at("fun x -> x x", (), (0,), (0, 0)), True)
        pair = "match 1 {x -> Two(x 1, x)}"
        self.assertIs(at(pair, *all_paths(read_tree(pair))), False)
        self.assertIs(at(pair, *all_paths(read_tree(pair))[1:]), True)
        rec = "rec f x = f f in 1"
        self.assertIs(at(rec, *all_paths(read_tree(rec))), False)
        self.assertIs(at(rec, *all_paths(read_tree(rec))[1:]), True)
        answer = "answer 1 {plain x -> x; ask x k -> k k}"
        self.assertIs(at(answer, (), (2,), (2, 0), (2, 1)), False)
        self.assertIs(at(answer, (2,), (2, 0), (2, 1)), True)
        let = "let x = 1 in x 1"
        self.assertIs(at(let, (), (0,), (1,), (1, 0)), False)
        self.assertIs(at(let, (), (1,), (1, 0)), True)
        self.assertIs(at(let, (0,), (1,), (1, 0)), True)

    def test_stills_are_kinded_at_each_place(self):
        text = "let i = fun x -> x in Two(i 1, i No())"
        paths = all_paths(read_tree(text))
        self.assertIs(at(text, *paths), True)
        text = "fun y -> let i = fun x -> y in Two(i 1 + 1, One(i 1) = 1)"
        self.assertIs(at(text, *all_paths(read_tree(text))), False)
        # What a still one asks of names bound outside is asked for, also if its own kind is not looked at.
        text = "fun y -> let i = Two(y 1, y) in y 1"
        self.assertIs(at("fun y -> let i = One(y y) in 1", (), (0, 0, 0), (0, 0, 0, 0), (0, 0, 0, 1)), False)
        self.assertIs(at("fun y -> let i = fun z -> y y in 1", (), (0, 0, 0), (0, 0, 0, 0), (0, 0, 0, 1)), False)
        self.assertIs(at(text, (), (0,)), True)

    def test_all_paths_and_none(self):
        for program in kinded_programs(40, 60, 3) + let_programs(41, 100, 3) + programs(42, 100, 2):
            if error_of(kinded_at, BOOK, program, ()) is None:
                self.assertIs(kinded_at(BOOK, program, ()), True)
                self.assertIs(kinded_at(BOOK, program, tuple(all_paths(program))), told_widest(BOOK, program) is not None)

    def test_lots_as_the_rules_tell(self):
        chance = random.Random(43)
        seen = {True: 0, False: 0}
        for program in kinded_programs(44, 150, 4) + let_programs(45, 400) + programs(46, 400, 3):
            if tree_size(program) <= 60 and error_of(kinded_at, BOOK, program, ()) is None:
                for share in (0.5, 0.8, 0.95):
                    lot = tuple(path for path in all_paths(program) if chance.random() < share)
                    told = kinded_at(BOOK, program, lot)
                    self.assertIs(told, told_widest(BOOK, program, lot) is not None, (program, lot))
                    seen[told] += 1
        self.assertGreater(min(seen.values()), 200)


class RefusalLotsTest(unittest.TestCase):

    def test_refusal_lots(self):
        refused = 0
        for program in kinded_programs(47, 60, 3) + let_programs(48, 150, 4) + programs(49, 150, 3):
            if error_of(refusal_lot, BOOK, program) is not None:
                continue
            lot = refusal_lot(BOOK, program)
            self.assertEqual(lot is None, told_widest(BOOK, program) is not None)
            if lot is None:
                self.assertIs(is_refusal_lot(BOOK, program, ()), False)
                self.assertIs(is_refusal_lot(BOOK, program, tuple(all_paths(program))), False)
            else:
                refused += 1
                self.check_lot(program, lot)
        self.assertGreater(refused, 100)

    def check_lot(self, program, lot):
        self.assertEqual(list(lot), sorted(set(lot)))
        self.assertIs(kinded_at(BOOK, program, lot), False)
        self.assertIsNone(told_widest(BOOK, program, lot))
        self.assertIs(is_refusal_lot(BOOK, program, lot), True)
        for spared in range(len(lot)):
            fewer = lot[:spared] + lot[spared + 1:]
            self.assertIs(kinded_at(BOOK, program, fewer), True)
            self.assertIs(is_refusal_lot(BOOK, program, fewer), False)
        for path in all_paths(program):
            if path not in lot:
                self.assertIs(is_refusal_lot(BOOK, program, tuple(sorted(lot + (path,)))), False)
        for bent in (list(lot), lot + lot[-1:], lot[::-1] if len(lot) > 1 else None, lot + ((9,),), None, 0, lot + (None,)):
            self.assertIs(is_refusal_lot(BOOK, program, bent), False, bent)

    def test_values_that_are_no_lots(self):
        program = read_tree("1 2")
        self.assertIs(is_refusal_lot(BOOK, program, ((), (0,))), True)
        for value in NO_PATHS + [((), (False,)), ((), [0]), [(), (0,)]]:
            self.assertIs(is_refusal_lot(BOOK, program, value), False, value)

    def test_two_lots(self):
        program = read_tree("Two(1 2, 3 4)")
        for lot in (((0,), (0, 0)), ((1,), (1, 0))):
            self.assertIs(is_refusal_lot(BOOK, program, lot), True)
        self.assertIs(is_refusal_lot(BOOK, program, ((0,), (0, 0), (1,), (1, 0))), False)

    def test_copies_of_copies(self):
        """Kinds of lets that would have far too many open kinds to be looked at one by one."""
        text = "let a = fun x -> x in "
        for one, other in zip("abcdefg", "bcdefgh"):
            text += f"let {other} = Two(Two({one}, {one}), Two({one}, {one})) in "
        program = read_tree(text + "h 1")
        lot = refusal_lot(BOOK, program)
        self.assertIs(is_refusal_lot(BOOK, program, lot), True)


class BoundsTest(unittest.TestCase):

    def test_sizes(self):
        def sized(size):
            tree = NUM
            for _ in range(size // 2):
                tree = ("op", "+", tree, NUM)
            return tree if size % 2 else ("fun", "x", sized(size - 1))
        for size in (79, 80, 81, 82):
            program = sized(size)
            if size <= 80:
                self.assertIsNone(refusal_lot(BOOK, program))
                self.assertIs(kinded_at(BOOK, program, ()), True)
                self.assertIs(is_refusal_lot(BOOK, program, None), False)
            else:
                self.check_limit(program, 80)
        self.check_limit(("op", "+", sized(79), ("shape", "No", ())), 80)

    def check_limit(self, program, limit):
        told = (TooMany, {"limit": limit})
        checked(self, told, refusal_lot, BOOK, program)
        checked(self, told, kinded_at, BOOK, program, ())
        checked(self, told, is_refusal_lot, BOOK, program, None)
        checked(self, InvalidPaths, kinded_at, BOOK, program, None)

    def test_lets_and_recs(self):
        tree = ("call", NUM, NUM)
        for many in range(14):
            if many <= 12:
                self.assertIsNotNone(refusal_lot(BOOK, tree))
                self.assertIs(kinded_at(BOOK, tree, ()), True)
            else:
                self.check_limit(tree, 12)
            tree = ("let", "x", NUM, tree) if many % 2 else ("rec", "f", "x", X, tree)
        great = ("shape", "Two", (tree, ("shape", "Two", (tree, tree))))
        self.check_limit(great, 80)

    def test_errors(self):
        for value in NO_BOOKS:
            checked(self, InvalidBook, kinded_at, value, None, None)
            checked(self, InvalidBook, refusal_lot, value, None)
            checked(self, InvalidBook, is_refusal_lot, value, None, None)
        for value, error in [(value, InvalidTree) for value in NO_TREES] + [(value, InvalidProgram) for value in NO_PROGRAMS]:
            checked(self, error, kinded_at, BOOK, value, None)
            checked(self, error, refusal_lot, BOOK, value)
            checked(self, error, is_refusal_lot, BOOK, value, None)
        for value in NO_PATHS:
            checked(self, InvalidPaths, kinded_at, BOOK, read_tree("1 2"), value)
        self.assertIs(kinded_at(BOOK, NUM, ((),)), True)
