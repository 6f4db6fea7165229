"""Forms of flat patterns, orders, blocks and codes, told without raising errors but by the check."""

from nearanswer.errors import InvalidCode
from nearanswer.treeforms import (MOST_DEPTH, MOST_SIZE, SIGNS, are_unlike, begins_with_word, is_integer, is_name,
                                  is_number, is_tag, is_tuple_of)

MOST_INDEX = 999
MOST_ORDERS = 1000
KINDS = ("run", "fun", "own", "row", "answer")
BARE_ORDERS = ("call", "bind", "lack", "plain", "return")
INDEXED_ORDERS = ("get", "fun", "own", "go")


def is_index(value):
    return is_integer(value, 0, MOST_INDEX)


def fits_code(value):
    """Whether any value is a code."""
    return is_tuple_of(value, 1, MOST_ORDERS) and all([is_block(block) for block in value])


def check_code(value):
    if not fits_code(value):
        raise InvalidCode("this is no code")


def is_block(value):
    if not is_tuple_of(value, 3, 3):
        return False
    kind, given, orders = value
    if type(kind) is not str or kind not in KINDS or not is_index(given):
        return False
    return is_tuple_of(orders, 1, MOST_ORDERS) and all([is_order(order) for order in orders])


def is_order(value):
    if not begins_with_word(value):
        return False
    word = value[0]
    many = len(value)
    if word in BARE_ORDERS:
        return many == 1
    if word in INDEXED_ORDERS:
        return many == 2 and is_index(value[1])
    if word == "num":
        return many == 2 and is_number(value[1])
    if word == "free":
        return many == 2 and is_integer(value[1], 1, MOST_INDEX)
    if word == "op":
        return many == 2 and type(value[1]) is str and value[1] in SIGNS
    if word == "do":
        return many == 2 and is_name(value[1])
    if word == "shape":
        return many == 3 and is_tag(value[1]) and is_integer(value[2], 0, 4)
    if word == "test":
        return many == 3 and is_flat_pattern(value[1]) and is_index(value[2])
    return word == "answer" and many == 3 and is_index(value[1]) and are_block_rows(value[2])


def are_block_rows(value):
    """Whether a value is the rows of an answerer in an order: pairs of a deed and a block, unlike in deeds."""
    if not is_tuple_of(value, 0, 6):
        return False
    for row in value:
        if not is_tuple_of(row, 2, 2) or not is_name(row[0]) or not is_index(row[1]):
            return False
    return are_unlike([row[0] for row in value])


def is_flat_pattern(value):
    """Whether a value is a pattern without its names."""
    many = 0
    waiting = [(value, 1)]
    while waiting:
        one, deep = waiting.pop()
        many = many + 1
        if many > MOST_SIZE or deep > MOST_DEPTH or not has_flat_form(one):
            return False
        if one[0] == "shapeis":
            waiting.extend([(part, deep + 1) for part in one[2]])
    return True


def has_flat_form(value):
    """Whether a value is a flat pattern as far as can be seen without looking into its patterns."""
    if not begins_with_word(value):
        return False
    word = value[0]
    if word == "any" or word == "bind":
        return len(value) == 1
    if word == "numis":
        return len(value) == 2 and is_number(value[1])
    return word == "shapeis" and len(value) == 3 and is_tag(value[1]) and is_tuple_of(value[2], 0, 4)


def binds_in(pattern):
    """How many names a flat pattern binds."""
    many = 0
    waiting = [pattern]
    while waiting:
        one = waiting.pop()
        if one[0] == "bind":
            many = many + 1
        elif one[0] == "shapeis":
            waiting.extend(one[2])
    return many
