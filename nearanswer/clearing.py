"""What is reached in heaps, counts, and heaps that are cleared, told without checks."""

from nearanswer.heapforms import addresses_in


def reached_in(heap, roots):
    """The ascending list of the addresses of all cells that are reached."""
    return sorted(reached_without(heap, roots, None))


def reached_without(heap, roots, cut):
    """The table of the addresses of all cells that are reached without the words of the cell at an address."""
    reached = {}
    waiting = addresses_in(roots)
    while waiting:
        address = waiting.pop()
        if address not in reached:
            reached[address] = True
            if address != cut:
                waiting.extend(addresses_in(heap[address][1]))
    return reached


def counts_of(heap, roots):
    """The list of how often the address of each place stands among the roots and the words of all cells."""
    counts = [0] * len(heap)
    for words in [roots] + [cell[1] for cell in heap if cell is not None]:
        for address in addresses_in(words):
            counts[address] = counts[address] + 1
    return counts


def copying_order(heap, roots):
    """The addresses of the cells reached, in the order in which they are copied."""
    order = []
    seen = {}
    rows = [roots]
    while rows:
        fresh = []
        for words in rows:
            for address in addresses_in(words):
                if address not in seen:
                    seen[address] = True
                    fresh.append(address)
        order.extend(fresh)
        rows = [heap[address][1] for address in fresh]
    return order


def moved_heap(heap, roots, order):
    """The pair of the heap of the cells at these addresses, in this order, and of its roots."""
    places = {address: place for place, address in enumerate(order)}
    cells = [(heap[address][0], moved_words(heap[address][1], places)) for address in order]
    return (tuple(cells), moved_words(roots, places))


def moved_words(words, places):
    """The words with the new places in the place of the addresses."""
    moved = []
    for word in words:
        if type(word) is int:
            moved.append(places[word])
        else:
            moved.append(word)
    return tuple(moved)


def copied(heap, roots):
    return moved_heap(heap, roots, copying_order(heap, roots))


def slid(heap, roots):
    return moved_heap(heap, roots, reached_in(heap, roots))


def swept(heap, roots):
    """The heap in which the places of all cells that are not reached are free."""
    reached = reached_without(heap, roots, None)
    left = []
    for address, cell in enumerate(heap):
        if address in reached:
            left.append(cell)
        else:
            left.append(None)
    return tuple(left)


def left_by_counts(heap, roots):
    """The heap behind letting go."""
    counts = counts_of(heap, roots)
    left = list(heap)
    waiting = [address for address, cell in enumerate(heap) if cell is not None and counts[address] == 0]
    while waiting:
        gone = waiting.pop()
        for address in addresses_in(heap[gone][1]):
            counts[address] = counts[address] - 1
            if counts[address] == 0:
                waiting.append(address)
        left[gone] = None
    return tuple(left)
