"""[21], [64]: carried forms."""

import unittest

from kinded import kinded_programs
from making import NO_PROGRAMS, NO_TREES, NUM, A, B, C, X, checked, programs
from nearanswer.carried import carried_back, carried_of, is_carried
from nearanswer.errors import InvalidCarried, InvalidFlat
from nearanswer.flatforms import flat_form, is_flat
from nearanswer.names import free_names, is_program, with_plain_names
from nearanswer.texts import read_tree
from nearanswer.trees import is_tree, tree_size


def some_programs():
    told = programs(80, 200, 4) + kinded_programs(81, 150, 3) + [read_tree(text) for text in (A, B, C)]
    return [flat_form(program) for program in told if tree_size(program) <= 100]


def carried_by_hand(tree, blocks):
    """The carried form told by words of [21]; a place in the list of blocks is kept where a name is bound."""
    if tree[0] == "fun":
        at = len(blocks)
        blocks.append(None)
        body = carried_by_hand(tree[2], blocks)
        blocks[at] = ("", tuple(name for name in free_names(tree[2]) if name != tree[1]), tree[1], body)
        return ("make", at)
    if tree[0] == "rec":
        at = len(blocks)
        blocks.append(None)
        made = carried_by_hand(tree[3], blocks)
        blocks[at] = (tree[1], tuple(name for name in free_names(tree[3]) if name not in tree[1:3]), tree[2], made)
        return ("let", tree[1], ("make", at), carried_by_hand(tree[4], blocks))
    if tree[0] == "let":
        one = carried_by_hand(tree[2], blocks)
        return ("let", tree[1], one, carried_by_hand(tree[3], blocks))
    if tree[0] == "match":
        return ("match", tree[1], tuple((pattern, carried_by_hand(body, blocks)) for pattern, body in tree[2]))
    if tree[0] == "answer":
        one = carried_by_hand(tree[1], blocks)
        pair = (tree[2][0], carried_by_hand(tree[2][1], blocks))
        return ("answer", one, pair, tuple(row[:3] + (carried_by_hand(row[3], blocks),) for row in tree[3]))
    return tree


class CarriedTest(unittest.TestCase):

    def test_forms(self):
        for text, carried in [
                ("1", ((), NUM)), ("fun a -> a", ((("", (), "a", ("name", "a")),), ("make", 0))),
                ("rec a b = a b in a 1", ((("a", (), "b", ("call", ("name", "a"), ("name", "b"))),), ("let", "a", ("make", 0), ("call", ("name", "a"), NUM)))),
                ("let a = fun b -> b in a", ((("", (), "b", ("name", "b")),), ("let", "a", ("make", 0), ("name", "a")))),
                ("let a = 1 in let b = 2 in rec c d = let e = b + d in fun f -> c a in c", (
                    (("c", ("a", "b"), "d", ("let", "e", ("op", "+", ("name", "b"), ("name", "d")), ("make", 1))),
                     ("", ("a", "c"), "f", ("call", ("name", "c"), ("name", "a")))),
                    ("let", "a", NUM, ("let", "b", ("num", 2), ("let", "c", ("make", 0), ("name", "c"))))))]:
            self.assertEqual(carried_of(read_tree(text)), carried)
            self.assertIs(is_carried(carried), True)
            self.assertEqual(carried_back(carried), read_tree(text))

    def test_blocks_stand_in_the_order_of_the_text(self):
        text = ("answer let a = fun b -> fun c -> b in a {plain d -> rec e f = fun g -> g in fun h -> h; "
                "ask i j -> match i {0 -> fun k -> k; l -> fun m -> l}}")
        blocks, _ = carried_of(read_tree(text))
        self.assertEqual([block[2] for block in blocks], ["b", "c", "f", "g", "h", "k", "m"])
        self.assertEqual([block[0] for block in blocks], ["", "", "e", "", "", "", ""])
        self.assertEqual([block[1] for block in blocks], [(), ("b",), (), (), (), (), ("l",)])

    def test_all_programs(self):
        for flat in some_programs():
            carried = carried_of(flat)
            blocks = []
            main = carried_by_hand(flat, blocks)
            self.assertEqual(carried, (tuple(blocks), main))
            self.assertIs(is_carried(carried), True)
            self.assertEqual(carried_back(carried), flat)

    def test_no_flat_programs(self):
        for value in NO_TREES + NO_PROGRAMS:
            checked(self, InvalidFlat, carried_of, value)
        for text in ("1 + (2 + 3)", "fun x -> x", "let b = 1 in b", "fun b -> fun a -> b", "x", "let a = b in a", "fun a -> a a a", "rec f x = f x in f 1"):
            checked(self, InvalidFlat, carried_of, read_tree(text))
        for program in programs(82, 100, 3):
            if not is_flat(program) or with_plain_names(program) != program:
                checked(self, InvalidFlat, carried_of, program)

    def test_bent_forms(self):
        bent_ones = 0
        for flat in some_programs():
            for bent in bendings(carried_of(flat)):
                bent_ones += 1
                self.check_no_form(bent)
        self.assertGreater(bent_ones, 1000)

    def check_no_form(self, value):
        self.assertIs(is_carried(value), False, value)
        checked(self, InvalidCarried, carried_back, value)

    def test_no_forms(self):
        fun = ("", (), "a", ("name", "a"))
        rec = ("a", (), "b", ("name", "b"))
        self.assertIs(is_carried(((rec,), ("let", "a", ("make", 0), NUM))), True)
        for value in NO_TREES + [((), value) for value in NO_TREES] + [
                ((), ("make", 0)), ((fun,), ("make", 1)), ((fun,), ("make", True)), ((fun,), ("make", False)), ((fun,), ("make", -1)), ((fun,), ("make",)),
                ((fun,), ("make", 0, 0)), ((fun,), ["make", 0]), ((fun,), NUM), ((fun, fun), ("make", 0)), ([fun], ("make", 0)), [(fun,), ("make", 0)],
                ((list(fun),), ("make", 0)), ((fun[:3],), ("make", 0)), ((fun + (1,),), ("make", 0)), ((rec,), ("make", 0)), ((rec,), ("call", ("make", 0), NUM)),
                ((rec,), ("let", "b", ("make", 0), NUM)), ((rec,), ("let", "c", ("make", 0), NUM)), ((("", (), "a", ("make", 0)),), ("make", 0)),
                ((("", (), "a", ("make", 1)), ("", (), "b", ("make", 0))), ("make", 0)), ((("", (), "a", X),), ("make", 0)), ((("", ("x",), "a", X),), ("make", 0)),
                ((("", ("a",), "a", ("name", "a")),), ("make", 0)), ((("", [], "a", ("name", "a")),), ("make", 0)), (((None, (), "a", ("name", "a")),), ("make", 0)),
                ((("", (), "b", ("name", "b")),), ("make", 0)), ((("a", (), "a", ("name", "a")),), ("let", "a", ("make", 0), NUM)), ((fun,), ("fun", "a", ("name", "a"))),
                ((), ("fun", "a", ("name", "a"))), ((), ("rec", "a", "b", ("name", "b"), NUM)), ((fun,), ("match", ("make", 0), ((("any",), NUM),))),
                ((fun,), ("shape", "One", (("make", 0),))), ((fun,), ("let", "a", ("make", 0), ("name", "a"))), ((), X), ((), ("call", ("call", NUM, NUM), NUM)),
                ((fun, rec), ("let", "a", ("make", 1), ("make", 0)))]:
            self.check_no_form(value)

    def test_values_that_share_their_parts(self):
        """Such values are no carried forms, and are told so at once, however great they would be written out."""
        tree = NUM
        for _ in range(100):
            tree = ("answer", tree, ("a", tree), ())
        self.check_no_form(((), tree))
        body = ("let", "a", ("make", 0), ("make", 0))
        self.check_no_form((tuple(("", (), "a", body) for _ in range(40)), body))
        chain = tuple(("", (), "a", ("make", at + 1)) for at in range(2000))
        self.check_no_form((chain, ("make", 0)))
        chain = tuple(("a", (), "b", ("let", "a", ("make", at + 1), NUM)) for at in range(2000))
        self.check_no_form((chain, ("let", "a", ("make", 0), NUM)))
        deep = ()
        for _ in range(299):
            deep = (deep,)
        self.check_no_form(deep)
        self.check_no_form(((), deep))

    def test_deepest_forms(self):
        tree = NUM
        for _ in range(119):
            tree = ("fun", "x", tree)
        flat = with_plain_names(tree)
        self.assertIs(is_tree(flat) and is_program(flat) and is_flat(flat), True)
        carried = carried_of(flat)
        self.assertEqual(len(carried[0]), 119)
        self.assertEqual(carried_back(carried), flat)
        rec = NUM
        for _ in range(119):
            rec = ("rec", "f", "x", rec, NUM)
        self.assertEqual(carried_back(carried_of(with_plain_names(rec))), with_plain_names(rec))


def bendings(carried):
    """The carried form with one thing in it changed."""
    blocks, main = carried
    told = [[blocks, main], (list(blocks), main), (blocks + (("", (), "a", NUM),), main), (blocks, main, 1)]
    for at, (own, kept, entry, body) in enumerate(blocks):
        def changed(block, at=at):
            return (blocks[:at] + (block,) + blocks[at + 1:], main)
        told += [changed((own, kept + ("zz",), entry, body)), changed((own, list(kept), entry, body)), changed((own, kept, "zz", body)), changed(None)]
        told += [changed((own + "z", kept, entry, body)), changed([own, kept, entry, body]), (blocks[:at] + blocks[at + 1:], main)]
        if kept:
            told.append(changed((own, kept[1:], entry, body)))
        if len(kept) > 1:
            told.append(changed((own, kept[::-1], entry, body)))
        if at > 0 and blocks[at - 1] != blocks[at]:
            told.append((blocks[:at - 1] + (blocks[at], blocks[at - 1]) + blocks[at + 1:], main))
    return told
