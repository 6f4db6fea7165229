"""Rings of heaps, holders of cells, and the ways by which cells are reached."""

from nearanswer.clearing import reached_without
from nearanswer.errors import InvalidAddress
from nearanswer.heapforms import addresses_in, check_heap, check_roots, is_address


def check_address(heap, value):
    if not is_address(heap, value):
        raise InvalidAddress("this is no address of a cell of the heap")


def check_held(heap, roots, address):
    check_heap(heap)
    check_roots(heap, roots)
    check_address(heap, address)


def leads_in(heap):
    """For each place the list of the addresses to which its cell leads."""
    leads = []
    for cell in heap:
        if cell is None:
            leads.append([])
        else:
            leads.append(addresses_in(cell[1]))
    return leads


def led_from(leads):
    """For each place the list of the addresses that lead to it."""
    back = [[] for _ in leads]
    for address, others in enumerate(leads):
        for other in others:
            back[other].append(address)
    return back


def leaving_order(leads):
    """All places in the order in which they are left, if one goes as deep as can be first."""
    order = []
    entered = {}
    for start in range(len(leads)):
        waiting = [(start, False)]
        while waiting:
            address, is_left = waiting.pop()
            if is_left:
                order.append(address)
            elif address not in entered:
                entered[address] = True
                waiting.append((address, True))
                waiting.extend([(other, False) for other in leads[address]])
    return order


def rings_in(heap):
    """The ascending list of all rings of a heap."""
    check_heap(heap)
    leads = leads_in(heap)
    back = led_from(leads)
    taken = {}
    rings = []
    # What is left last leads to all that leads back to it among what has not been taken.
    for start in leaving_order(leads)[::-1]:
        lot = []
        waiting = [start]
        while waiting:
            address = waiting.pop()
            if address not in taken:
                taken[address] = True
                lot.append(address)
                waiting.extend(back[address])
        if len(lot) > 1 or (len(lot) == 1 and start in leads[start]):
            rings.append(tuple(sorted(lot)))
    return sorted(rings)


def holders_of(heap, roots, address):
    """The ascending list of the addresses of all holders of a cell, none if it is not reached."""
    check_held(heap, roots, address)
    trail = trail_to(heap, ways_in(heap, roots), address)
    places = {cell: place for place, cell in enumerate(trail)}
    reached = {}
    furthest = furthest_place(heap, addresses_in(roots), reached, places)
    holders = []
    for place, cell in enumerate(trail[:-1]):
        # All ways so far that lead past this cell would have come to a later one of the trail.
        if furthest == place:
            holders.append(cell)
        furthest = max(furthest, furthest_place(heap, addresses_in(heap[cell][1]), reached, places))
    return sorted(holders)


def furthest_place(heap, addresses, reached, places):
    """The last place of a trail to which these addresses lead without passing through the trail, -1 for none.

    What has been reached so is noted in a table, and not looked at again.
    """
    furthest = -1
    waiting = list(addresses)
    while waiting:
        address = waiting.pop()
        if address in places:
            furthest = max(furthest, places[address])
        elif address not in reached:
            reached[address] = True
            waiting.extend(addresses_in(heap[address][1]))
    return furthest


def held_by(heap, roots, address):
    """The ascending list of the addresses of all cells of which a cell is a holder."""
    check_held(heap, roots, address)
    left = reached_without(heap, roots, address)
    return [other for other in sorted(reached_without(heap, roots, None)) if other not in left]


def ways_in(heap, roots):
    """For each cell that is reached the pair of the cell by which it is, None for a root, and of the index there.

    The cells are in the order of their ways.
    """
    ways = {}
    rows = [(None, roots)]
    while rows:
        fresh = []
        for source, words in rows:
            for index, word in enumerate(words):
                if type(word) is int and word not in ways:
                    ways[word] = (source, index)
                    fresh.append((word, heap[word][1]))
        rows = fresh
    return ways


def trail_to(heap, ways, address):
    """The cells on the way to a cell, from a root on; none if it is not reached."""
    trail = []
    here = address
    while here in ways:
        trail.append(here)
        here = ways[here][0]
    return trail[::-1]


def way_to(heap, roots, address):
    """The way by which a cell is reached, None if it is not."""
    check_held(heap, roots, address)
    ways = ways_in(heap, roots)
    if address not in ways:
        return None
    return tuple([ways[cell][1] for cell in trail_to(heap, ways, address)])
