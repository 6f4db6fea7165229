"""Looking at codes: whether each order finds what it takes."""

from nearanswer.codeforms import binds_in, check_code
from nearanswer.errors import InvalidCode

# How many operands an order takes, and how many it puts, where its word tells it alone.
TAKEN = {"call": 2, "op": 2, "bind": 1, "do": 1, "test": 1}
PUTTING = ("num", "get", "fun", "own", "call", "op", "do", "shape", "answer")
ENDING = ("return", "lack")


def look_at(code):
    """("sound", tables), or ("fault", block, place, word) for the first fault of a code."""
    check_code(code)
    return looked(code)


def is_sound(code):
    """Whether a code is sound."""
    check_code(code)
    return looked(code)[0] == "sound"


def check_sound(code):
    check_code(code)
    if looked(code)[0] != "sound":
        raise InvalidCode("this code is not sound")


def looked(code):
    tables = []
    for index in range(len(code)):
        table, fault = looked_block(code, index)
        if fault is not None:
            return ("fault", index) + fault
        tables.append(tuple(table))
    return ("sound", tuple(tables))


def looked_block(code, index):
    """The triples of the orders of a block, None where none leads, and its first fault as a pair, None without one."""
    kind, given, orders = code[index]
    if (kind == "run") != (index == 0) or (index == 0 and given != 0):
        return ([], (0, "block"))
    table = [None] * len(orders)
    table[0] = (0, given, int(kind == "answer"))
    for place in range(len(orders)):
        if table[place] is not None:
            ways = []
            word = own_fault(code, index, place, table[place])
            if word is None:
                ways = ways_from(orders[place], place, table[place])
                word = way_fault(table, ways)
            if word is not None:
                return (table, (place, word))
            for to, triple in ways:
                table[to] = triple
    return (table, None)


def own_fault(code, index, place, triple):
    """The first fault of an order, but for those of its ways; None if it has none."""
    _, given, orders = code[index]
    order = orders[place]
    operands, bound, opened = triple
    word = order[0]
    if word in ("test", "go") and not place < order[-1] < len(orders):
        return "to"
    if not are_blocks_fitting(code, order, bound):
        return "block"
    if operands < taken_by(order):
        return "operands"
    if (word == "get" and order[1] >= bound) or (word == "free" and bound - order[1] < given):
        return "bound"
    if word == "plain" and (opened, operands) != (1, 1):
        return "open"
    if word == "return" and (opened, operands) != (0, 1):
        return "end"
    if word not in ENDING and word != "go" and place == len(orders) - 1:
        return "end"
    return None


def are_blocks_fitting(code, order, bound):
    """Whether all blocks that an order names are there, with the kind and the given that they must have."""
    word = order[0]
    if word == "fun":
        return is_block_of(code, order[1], "fun", bound + 1)
    if word == "own":
        return is_block_of(code, order[1], "own", bound + 2)
    if word != "answer":
        return True
    rows = [is_block_of(code, block, "row", bound + 2) for _, block in order[2]]
    return is_block_of(code, order[1], "answer", bound) and all(rows)


def is_block_of(code, index, kind, given):
    return index < len(code) and code[index][:2] == (kind, given)


def taken_by(order):
    """How many operands an order takes."""
    if order[0] == "shape":
        return order[2]
    return TAKEN.get(order[0], 0)


def ways_from(order, place, triple):
    """The pairs of the places to which an order leads, and of the triples there."""
    operands, bound, opened = triple
    word = order[0]
    if word in ENDING:
        return []
    if word == "go":
        return [(order[1], triple)]
    left = operands - taken_by(order) + int(word in PUTTING)
    if word == "test":
        return [(place + 1, (left, bound + binds_in(order[1]), opened)), (order[2], triple)]
    if word == "bind":
        bound = bound + 1
    elif word == "free":
        bound = bound - order[1]
    elif word == "plain":
        opened = 0
    return [(place + 1, (left, bound, opened))]


def way_fault(table, ways):
    """The fault "ways" if an order leads to where one ahead, or its other way, leads with another triple, or None."""
    for to, triple in ways:
        if table[to] is not None and table[to] != triple:
            return "ways"
    if len(ways) == 2 and ways[0][0] == ways[1][0] and ways[0][1] != ways[1][1]:
        return "ways"
    return None
