"""[37], [39], [77]: heaps, roots, what is reached, and counts."""

import random
import unittest

from making import checked
from nearanswer.errors import InvalidHeap, InvalidRoots
from nearanswer.heaps import are_roots, counts_in, is_heap, reached_from

CELL = (("a",), ())
NO_HEAPS = [
    None, 1, "heap", [], [CELL], {}, (1,), ((),), (CELL + (1,),), ((("a",),),), (((), ()),), (([], ()),), ((["a"], ()),), ((("a",), []),), (((1,), ()),), ((None, ()),),
    (("a", ()),), (list(CELL),), (((True,), ()),), ((("a",), (1,)),), ((("a",), (-1,)),), (CELL, (("a",), (2,))), (None, (("a",), (0,))), ((("a",), (True,)), CELL),
    ((("a",), (False,)), CELL), ((("a",), ("0",)),), ((("a",), (("num",),)),), ((("a",), (("num", True),)),), ((("a",), (("num", 10 ** 12 + 1),)),), ((("a",), (["num", 1],)),),
    ((("a",), (("num", 1, 1),)),), ((("a",), (("name", 1),)),), ((("a",), ((1, 1),)),), ((("a",), (0,) * 13),), (CELL,) * 1001, (None,) * 1001, (CELL, 0), ((("a",), ((),)),),
    ((("a",), (0.0,)),), (CELL, False), ((b"a", ()),), (((b"a",), ()),),
]
HEAPS = [
    (), (None,), (CELL,), (None,) * 1000, (CELL,) * 1000, ((("a",), (0,) * 12),), ((("a",), (None,) * 12),), ((("a",), (("num", 10 ** 12), ("num", -10 ** 12), None, 0)),),
    (((("a", [1], None, 2.5)), (1,)), (("", ("x",)), (0,))), (None, (("a",), (1,)), None), (CELL,) * 999 + ((("b",), (0, 999)),),
]


def some_heap(chance, many):
    """A heap of so many places, by chance."""
    cells = [chance.random() < 0.85 for _ in range(many)]
    addresses = [at for at in range(many) if cells[at]]
    return tuple((("cell", at), some_words(chance, addresses)) if cells[at] else None for at in range(many))


def some_words(chance, addresses):
    words = [None, ("num", 3)] + ([chance.choice(addresses) for _ in range(6)] if addresses else [])
    return tuple(chance.choice(words) for _ in range(chance.randrange(5)))


def reached_by_hand(heap, roots):
    """What is reached, made greater until it stays."""
    reached = {word for word in roots if type(word) is int}
    while True:
        more = {word for at in reached for word in heap[at][1] if type(word) is int}
        if more <= reached:
            return sorted(reached)
        reached |= more


class HeapsTest(unittest.TestCase):

    def test_heaps(self):
        for heap in HEAPS:
            self.assertIs(is_heap(heap), True)
        for value in NO_HEAPS:
            self.assertIs(is_heap(value), False, value)
            for action in (reached_from, counts_in, are_roots):
                checked(self, InvalidHeap, action, value, None)

    def test_roots(self):
        heap = (CELL, None, (("b",), (0,)))
        for roots in [(), (0,), (2, 2, None, ("num", 7)), (0,) * 12, (None,) * 12]:
            self.assertIs(are_roots(heap, roots), True)
        for value in [None, 0, [0], (1,), (3,), (-1,), (True,), (False,), ("0",), (0,) * 13, (("num",),), (("num", True),), (("num", 10 ** 12 + 1),), ((0,),), (0.0,), (["num", 1],)]:
            self.assertIs(are_roots(heap, value), False, value)
            checked(self, InvalidRoots, reached_from, heap, value)
            checked(self, InvalidRoots, counts_in, heap, value)
        self.assertIs(are_roots((), (0,)), False)
        self.assertIs(are_roots((), (None, ("num", 1))), True)
        self.assertIs(are_roots((None,), (0,)), False)

    def test_reached(self):
        chance = random.Random(320)
        for _ in range(300):
            heap = some_heap(chance, chance.randrange(12))
            roots = some_words(chance, [at for at, cell in enumerate(heap) if cell])
            self.assertIs(is_heap(heap) and are_roots(heap, roots), True)
            self.assertEqual(reached_from(heap, roots), reached_by_hand(heap, roots))

    def test_counts(self):
        chance = random.Random(321)
        for _ in range(300):
            heap = some_heap(chance, chance.randrange(12))
            roots = some_words(chance, [at for at, cell in enumerate(heap) if cell])
            words = list(roots) + [word for cell in heap if cell for word in cell[1]]
            told = tuple(sum(type(word) is int and word == at for word in words) if cell else None for at, cell in enumerate(heap))
            self.assertEqual(counts_in(heap, roots), told)

    def test_small_heaps(self):
        heap = ((("a",), (1, 1)), (("b",), (None, ("num", 0))), None, (("c",), (3, 0)), (("d",), ()))
        self.assertEqual(reached_from(heap, (0, ("num", 4))), [0, 1])
        self.assertEqual(reached_from(heap, (3,)), [0, 1, 3])
        self.assertEqual(reached_from(heap, ()), [])
        self.assertEqual(counts_in(heap, (0, 0, 4, None, ("num", 1))), (3, 2, None, 1, 1))
        self.assertEqual(counts_in(heap, ()), (1, 2, None, 1, 0))
        self.assertEqual((reached_from((), ()), counts_in((), ())), ([], ()))
        self.assertEqual(counts_in((None, None), ()), (None, None))

    def test_long_chains(self):
        chain = tuple((("a",), (at + 1,)) for at in range(999)) + (CELL,)
        self.assertEqual(reached_from(chain, (0,)), list(range(1000)))
        self.assertEqual(reached_from(chain, (500,)), list(range(500, 1000)))
        self.assertEqual(counts_in(chain, (0,)), (1,) * 1000)
