"""Forms of words, cells, heaps and roots, told without raising errors but by the checks."""

from nearanswer.errors import InvalidHeap, InvalidRoots
from nearanswer.treeforms import begins_with_word, is_index_of, is_number, is_tuple_of

MOST_ITEMS = 1000
MOST_WORDS = 12


def fits_heap(value):
    """Whether any value is a heap."""
    if not is_tuple_of(value, 0, MOST_ITEMS):
        return False
    return all([item is None or is_cell(value, item) for item in value])


def is_cell(heap, value):
    """Whether a value is a cell, all addresses in it being those of items that are none of them None."""
    return is_tuple_of(value, 2, 2) and begins_with_word(value[0]) and are_words(heap, value[1])


def are_words(heap, value):
    """Whether a value is a tuple of words, and so roots of a heap."""
    return is_tuple_of(value, 0, MOST_WORDS) and all([is_heap_word(heap, word) for word in value])


def is_heap_word(heap, value):
    if value is None or is_address(heap, value):
        return True
    return is_tuple_of(value, 2, 2) and type(value[0]) is str and value[0] == "num" and is_number(value[1])


def is_address(heap, value):
    """Whether a value is the address of a cell."""
    return is_index_of(value, heap) and heap[value] is not None


def check_heap(value):
    if not fits_heap(value):
        raise InvalidHeap("this is no heap")


def check_roots(heap, value):
    if not are_words(heap, value):
        raise InvalidRoots("these are no roots of the heap")


def addresses_in(words):
    """The addresses among words, in order."""
    return [word for word in words if type(word) is int]
