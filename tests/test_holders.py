"""[39], [40], [79], and of [3] that of two holders of a cell the one is a holder of the other one."""

import itertools
import random
import unittest

from making import checked
from nearanswer.errors import InvalidAddress, InvalidHeap, InvalidRoots
from nearanswer.heaps import reached_from
from nearanswer.holders import held_by, holders_of, rings_in, way_to
from test_collectors import CHAIN, NO_ROOTS, some_heaps
from test_heaps import CELL, HEAPS, NO_HEAPS

ACTIONS = (holders_of, held_by, way_to)
NO_ADDRESSES = [None, -1, 1, 3, 10 ** 100, True, False, "0", (0,), [0], 0.0, ("num", 0)]


def leads(heap, address):
    return [word for word in heap[address][1] if type(word) is int]


def rings_by_hand(heap):
    """For each two cells, whether one comes from the one to the other one along one word or more."""
    behind = {at: set(reached_from(heap, tuple(leads(heap, at)))) for at, cell in enumerate(heap) if cell}
    rings = set()
    for at in behind:
        ring = tuple(sorted(other for other in behind if other in behind[at] and at in behind[other]))
        if ring:
            rings.add(ring)
    return sorted(rings)


def without_words(heap, address):
    return tuple((cell[0], ()) if at == address else cell for at, cell in enumerate(heap))


def holders_by_hand(heap, roots, address):
    if address not in reached_from(heap, roots):
        return []
    return [at for at, cell in enumerate(heap) if cell and at != address and address not in reached_from(without_words(heap, at), roots)]


def way_by_hand(heap, roots, address):
    """The least of all ways with so many words, for more and more words."""
    ways = [((index,), word) for index, word in enumerate(roots) if type(word) is int]
    for _ in range(len(heap) + 1):
        found = [way for way, at in ways if at == address]
        if found:
            return min(found)
        ways = [(way + (index,), word) for way, at in ways for index, word in enumerate(heap[at][1]) if type(word) is int]
        ways = [min(group) for _, group in itertools.groupby(sorted(ways, key=lambda pair: pair[1]), key=lambda pair: pair[1])]
    return None


class HoldersTest(unittest.TestCase):

    def test_rings(self):
        sizes = set()
        for heap, _ in some_heaps(410, 500):
            self.assertEqual(rings_in(heap), rings_by_hand(heap))
            sizes.update(len(ring) for ring in rings_in(heap))
        self.assertTrue({1, 2, 3, 4} <= sizes)

    def test_holders(self):
        many = 0
        for heap, roots in some_heaps(411, 300):
            told = {}
            for at, cell in enumerate(heap):
                if cell:
                    told[at] = holders_of(heap, roots, at)
                    many += len(told[at])
                    self.assertEqual(told[at], holders_by_hand(heap, roots, at))
            for at in told:
                self.assertEqual(held_by(heap, roots, at), [other for other in told if at in told[other]])
                for one, other in itertools.combinations(told[at], 2):
                    self.assertTrue(one in told[other] or other in told[one])
        self.assertGreater(many, 300)

    def test_ways(self):
        none = 0
        for heap, roots in some_heaps(412, 400):
            for at, cell in enumerate(heap):
                if cell:
                    told = way_to(heap, roots, at)
                    none += told is None
                    self.assertEqual(told, way_by_hand(heap, roots, at))
                    self.assertEqual(told is None, at not in reached_from(heap, roots))
                    if told:
                        here = roots[told[0]]
                        for index in told[1:]:
                            here = heap[here][1][index]
                        self.assertEqual(here, at)
        self.assertGreater(none, 100)

    def test_the_first_way_of_those_with_the_fewest_words(self):
        heap = ((("a",), (None, 2, 1)), (("b",), (3,)), (("c",), (("num", 0), 3, 3)), (("d",), (4,)), (("e",), (4, 0)))
        self.assertEqual([way_to(heap, (0,), at) for at in range(5)], [(0,), (0, 2), (0, 1), (0, 1, 1), (0, 1, 1, 0)])
        self.assertEqual([way_to(heap, (None, 0, 0, 1), at) for at in range(5)], [(1,), (3,), (1, 1), (3, 0), (3, 0, 0)])
        # A way with fewer words comes ahead of one that is less.
        self.assertEqual(way_to(heap, (0, 3), 3), (1,))
        self.assertEqual([way_to(heap, (4, 4), at) for at in range(5)], [(0, 1), (0, 1, 2), (0, 1, 1), (0, 1, 1, 1), (0,)])
        self.assertEqual(way_to(heap, (), 0), None)

    def test_small_heaps(self):
        heap = ((("a",), (1, 2)), (("b",), (3,)), (("c",), (3,)), (("d",), (3, 4)), (("e",), (0,)), None, (("f",), (6,)))
        self.assertEqual(rings_in(heap), [(0, 1, 2, 3, 4), (6,)])
        self.assertEqual([holders_of(heap, (0,), at) for at in (0, 1, 2, 3, 4, 6)], [[], [0], [0], [0], [0, 3], []])
        self.assertEqual([held_by(heap, (0,), at) for at in (0, 1, 2, 3, 4, 6)], [[1, 2, 3, 4], [], [], [4], [], []])
        self.assertEqual(holders_of(heap, (0, 3), 4), [3])
        self.assertEqual([held_by(heap, (1, 2), at) for at in (0, 1, 2, 3, 4)], [[], [], [], [0, 4], [0]])
        self.assertEqual(holders_of(heap, (), 0), [])
        self.assertEqual(rings_in(()), [])
        self.assertEqual(rings_in((None, CELL, (("a",), (2,)))), [(2,)])

    def test_great_heaps(self):
        self.assertEqual(rings_in(CHAIN), [])
        self.assertEqual(holders_of(CHAIN, (0,), 999), list(range(999)))
        self.assertEqual(held_by(CHAIN, (3,), 400), list(range(401, 1000)))
        self.assertEqual(way_to(CHAIN, (0,), 999), (0,) * 1000)
        ring = CHAIN[:999] + ((("a",), (0, 0)),)
        self.assertEqual(rings_in(ring), [tuple(range(1000))])
        self.assertEqual(holders_of(ring, (500,), 499), list(range(499)) + list(range(500, 1000)))
        full = tuple((("a",), tuple((at * 7 + more) % 1000 for more in range(12))) for at in range(1000))
        self.assertEqual(rings_in(full), [tuple(range(1000))])
        self.assertEqual([holders_of(full, (3,), at) for at in (0, 500, 999)], [[3], [3], [3]])
        self.assertEqual([holders_of(full, (3, 4), at) for at in (0, 500, 999)], [[], [], []])
        self.assertEqual(len(way_to(full, (3,), 999)), 5)

    def test_chains_with_ways_past(self):
        chance = random.Random(413)
        for _ in range(40):
            heap = tuple((("a",), (min(at + 1, 29),) + tuple(chance.randrange(min(at + 4, 30)) for _ in range(chance.randrange(2)))) for at in range(30))
            for at in range(0, 30, 7):
                self.assertEqual(holders_of(heap, (0,), at), holders_by_hand(heap, (0,), at))

    def test_wrong_arguments(self):
        heap = (CELL, None, (("b",), (0,)))
        for action in ACTIONS:
            for value in NO_HEAPS:
                checked(self, InvalidHeap, action, value, None, None)
            for value in NO_ROOTS:
                checked(self, InvalidRoots, action, heap, value, None)
            for value in NO_ADDRESSES:
                checked(self, InvalidAddress, action, heap, (2,), value)
            checked(self, InvalidAddress, action, (), (), 0)
        for value in NO_HEAPS:
            checked(self, InvalidHeap, rings_in, value)
        for value in HEAPS:
            rings_in(value)


if __name__ == "__main__":
    unittest.main()
