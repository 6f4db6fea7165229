"""Heaps of cells, and what is reached in them."""

from nearanswer.clearing import counts_of, reached_in
from nearanswer.heapforms import are_words, check_heap, check_roots, fits_heap


def is_heap(value):
    """Whether any value is a heap."""
    return fits_heap(value)


def are_roots(heap, value):
    """Whether any value is roots of a heap."""
    check_heap(heap)
    return are_words(heap, value)


def reached_from(heap, roots):
    """The ascending list of the addresses of all cells that are reached."""
    check_heap(heap)
    check_roots(heap, roots)
    return reached_in(heap, roots)


def counts_in(heap, roots):
    """The tuple of the counts of all cells, None for free places."""
    check_heap(heap)
    check_roots(heap, roots)
    told = []
    for cell, count in zip(heap, counts_of(heap, roots)):
        if cell is None:
            told.append(None)
        else:
            told.append(count)
    return tuple(told)
