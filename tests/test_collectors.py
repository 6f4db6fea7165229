"""[38], [39], [78], and of [3] that letting go frees nothing that is reached: heaps copied, slid and swept, letting go, rings held."""

import random
import unittest

from making import A, C, checked
from nearanswer.collectors import copied_heap, let_go, rings_held, slid_heap, swept_heap
from nearanswer.errors import InvalidHeap, InvalidRoots
from nearanswer.heapruns import HeapRun
from nearanswer.heaps import are_roots, counts_in, is_heap, reached_from
from nearanswer.holders import rings_in
from nearanswer.texts import read_tree
from test_heaps import CELL, HEAPS, NO_HEAPS, some_heap, some_words

ACTIONS = (copied_heap, slid_heap, swept_heap, let_go, rings_held)
NO_ROOTS = [None, 0, [0], (1,), (3,), (-1,), (True,), (False,), ("0",), (0,) * 13, (("num",),), (("num", True),), (("num", 10 ** 12 + 1),), ((0,),), (0.0,), (["num", 1],)]
CHAIN = tuple((("a", at), (at + 1,)) for at in range(999)) + (CELL,)


def some_heaps(seed, many):
    chance = random.Random(seed)
    for _ in range(many):
        heap = some_heap(chance, chance.randrange(14))
        yield heap, some_words(chance, [at for at, cell in enumerate(heap) if cell])


def changed(words, table):
    return tuple(table[word] if type(word) is int else word for word in words)


def copied_by_hand(heap, roots):
    """[38]: a line of the cells that have new addresses; the cells to which they lead get further ones."""
    line = []
    for word in roots:
        if type(word) is int and word not in line:
            line.append(word)
    at = 0
    while at < len(line):
        for word in heap[line[at]][1]:
            if type(word) is int and word not in line:
                line.append(word)
        at += 1
    table = {old: new for new, old in enumerate(line)}
    return tuple((heap[old][0], changed(heap[old][1], table)) for old in line), changed(roots, table)


def let_go_by_hand(heap, roots):
    heap = list(heap)
    while True:
        counts = counts_in(tuple(heap), roots)
        if 0 not in counts:
            return tuple(heap)
        heap[counts.index(0)] = None


class CollectorsTest(unittest.TestCase):

    def test_copied(self):
        for heap, roots in some_heaps(400, 400):
            told, words = copied_heap(heap, roots)
            self.assertEqual((told, words), copied_by_hand(heap, roots))
            self.assertTrue(is_heap(told) and are_roots(told, words))
            self.assertEqual(len(told), len(reached_from(heap, roots)))
            self.assertEqual(copied_heap(told, words), (told, words))

    def test_slid(self):
        for heap, roots in some_heaps(401, 400):
            table = {old: new for new, old in enumerate(reached_from(heap, roots))}
            cells = tuple((heap[old][0], changed(heap[old][1], table)) for old in sorted(table))
            self.assertEqual(slid_heap(heap, roots), (cells, changed(roots, table)))

    def test_swept(self):
        for heap, roots in some_heaps(402, 400):
            reached = reached_from(heap, roots)
            told = swept_heap(heap, roots)
            self.assertEqual(told, tuple(cell if at in reached else None for at, cell in enumerate(heap)))
            self.assertEqual(reached_from(told, roots), reached)

    def test_let_go(self):
        held = 0
        for heap, roots in some_heaps(403, 600):
            told = let_go(heap, roots)
            self.assertEqual(told, let_go_by_hand(heap, roots))
            reached = reached_from(heap, roots)
            self.assertTrue(all(told[at] is not None for at in reached))
            rings = rings_held(heap, roots)
            held += len(rings) > 0
            self.assertEqual(rings, [at for at, cell in enumerate(told) if cell and at not in reached])
            # What is left besides is led to from rings that are not reached.
            sources = [at for ring in rings_in(told) for at in ring if at not in reached]
            self.assertTrue(set(rings) <= set(reached_from(told, ())) | {at for one in sources for at in reached_from(told, (one,))})
        self.assertGreater(held, 50)

    def test_small_heaps(self):
        heap = (None, (("a",), (3, None, 3)), (("b",), (2,)), (("c",), (1, ("num", 7))), (("d",), (1, 2)), None)
        self.assertEqual(copied_heap(heap, (3, None, 3, ("num", 1))), (((("c",), (1, ("num", 7))), (("a",), (0, None, 0))), (0, None, 0, ("num", 1))))
        self.assertEqual(slid_heap(heap, (3, 3)), (((("a",), (1, None, 1)), (("c",), (0, ("num", 7)))), (1, 1)))
        self.assertEqual(swept_heap(heap, (3,)), (None, heap[1], None, heap[3], None, None))
        self.assertEqual(let_go(heap, ()), (None,) + heap[1:4] + (None, None))
        self.assertEqual((rings_held(heap, ()), rings_held(heap, (1,)), rings_held(heap, (4,))), ([1, 2, 3], [2], []))
        # Cells that lead to themselves, and a ring that leads to what is in no ring.
        loop = ((("a",), (0,)), (("b",), (0,)), (("c",), (3,)), (("d",), (2, 4)), CELL)
        self.assertEqual((let_go(loop, ()), rings_held(loop, ()), rings_held(loop, (1,))), ((loop[0], None) + loop[2:], [0, 2, 3, 4], [2, 3, 4]))
        self.assertEqual((copied_heap((), ()), slid_heap((), ()), swept_heap((), ()), let_go((), ()), rings_held((), ())), (((), ()), ((), ()), (), (), []))
        self.assertEqual(copied_heap((None, CELL), (1, 1)), ((CELL,), (0, 0)))
        self.assertEqual((swept_heap((None, CELL), ()), let_go((None, CELL), ())), ((None, None), (None, None)))

    def test_words_are_walked_in_order(self):
        heap = ((("a",), (3, 2)), (("b",), (4,)), (("c",), (4,)), (("d",), (1, 0)), CELL)
        self.assertEqual([label for label, _ in copied_heap(heap, (0,))[0]], [("a",), ("d",), ("c",), ("b",), ("a",)])
        self.assertEqual(copied_heap(heap, (2, 0))[1], (0, 1))
        self.assertEqual([words for _, words in copied_heap(heap, (2, 0))[0]], [(2,), (3, 0), (), (4, 1), (2,)])

    def test_great_heaps(self):
        self.assertEqual(copied_heap(CHAIN[:0] + CHAIN, (0,)), (CHAIN, (0,)))
        self.assertEqual(slid_heap(CHAIN, (500,)), (tuple((label, tuple(word - 500 for word in words)) for label, words in CHAIN[500:]), (0,)))
        self.assertEqual(swept_heap(CHAIN, (500,)), (None,) * 500 + CHAIN[500:])
        self.assertEqual(let_go(CHAIN, ()), (None,) * 1000)
        self.assertEqual(let_go(CHAIN, (500,)), (None,) * 500 + CHAIN[500:])
        ring = CHAIN[:999] + ((("a", 999), (0,)),)
        self.assertEqual((let_go(ring, ()), rings_held(ring, ()), rings_held(ring, (7,))), (ring, list(range(1000)), []))
        full = ((("a",), tuple(range(12))),) * 1000
        self.assertEqual(copied_heap(full, (11, 10))[1], (0, 1))
        self.assertEqual(len(slid_heap(full, (999,))[0]), 13)

    def test_heaps_of_runs(self):
        """Without a rec in the program no rings come, with one its own cells are a ring."""
        run, again = HeapRun(read_tree(A)), HeapRun(read_tree(C))
        while run.step():
            self.assertEqual((rings_in(run.standing()[2]), rings_held(run.standing()[2], run.roots())), ([], []))
        while again.step():
            pass
        self.assertEqual(rings_held(again.standing()[2], again.roots()), [0, 1])

    def test_wrong_arguments(self):
        heap = (CELL, None, (("b",), (0,)))
        for action in ACTIONS:
            for value in NO_HEAPS:
                checked(self, InvalidHeap, action, value, None)
            for value in NO_ROOTS:
                checked(self, InvalidRoots, action, heap, value)
            for value in HEAPS:
                action(value, ())


if __name__ == "__main__":
    unittest.main()
