"""Heaps of cells, and what is reached in them."""

from nearanswer.heapforms import addresses_in, are_words, check_heap, check_roots, fits_heap


def is_heap(value):
    """Whether any value is a heap."""
    return fits_heap(value)


def are_roots(heap, value):
    """Whether any value is roots of a heap."""
    check_heap(heap)
    return are_words(heap, value)


def reached_from(heap, roots):
    """The ascending list of the addresses of all cells that are reached."""
    check_heap(heap)
    check_roots(heap, roots)
    reached = {}
    waiting = addresses_in(roots)
    while waiting:
        address = waiting.pop()
        if address not in reached:
            reached[address] = True
            waiting.extend(addresses_in(heap[address][1]))
    return sorted(reached)


def counts_in(heap, roots):
    """The tuple of the counts of all cells, None for free places."""
    check_heap(heap)
    check_roots(heap, roots)
    counts = [0] * len(heap)
    for words in [roots] + [cell[1] for cell in heap if cell is not None]:
        for address in addresses_in(words):
            counts[address] = counts[address] + 1
    told = []
    for cell, count in zip(heap, counts):
        if cell is None:
            told.append(None)
        else:
            told.append(count)
    return tuple(told)
