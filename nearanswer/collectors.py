"""Heaps that are copied, slid and swept, and letting go."""

from nearanswer.clearing import copied, left_by_counts, reached_without, slid, swept
from nearanswer.heapforms import check_heap, check_roots


def copied_heap(heap, roots):
    """The pair of the heap copied, and of its roots."""
    check_heap(heap)
    check_roots(heap, roots)
    return copied(heap, roots)


def slid_heap(heap, roots):
    """The pair of the heap slid, and of its roots."""
    check_heap(heap)
    check_roots(heap, roots)
    return slid(heap, roots)


def swept_heap(heap, roots):
    """The heap swept."""
    check_heap(heap)
    check_roots(heap, roots)
    return swept(heap, roots)


def let_go(heap, roots):
    """The heap behind letting go."""
    check_heap(heap)
    check_roots(heap, roots)
    return left_by_counts(heap, roots)


def rings_held(heap, roots):
    """The ascending list of the addresses of all cells that stay behind letting go without being reached."""
    check_heap(heap)
    check_roots(heap, roots)
    reached = reached_without(heap, roots, None)
    left = left_by_counts(heap, roots)
    return [address for address, cell in enumerate(left) if cell is not None and address not in reached]
