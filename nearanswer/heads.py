"""Rows, heads and places, told without raising errors."""

from nearanswer.treeforms import (begins_with_word, fits_pattern, is_integer, is_number, is_tag, is_tuple_of,
                                  pattern_measure)

MOST_ROWS = 6
MOST_ROWS_SIZE = 40
MOST_NESTED = 60
MOST_PARTS = 4


def fits_rows(value):
    """Whether any value is rows."""
    if not is_tuple_of(value, 1, MOST_ROWS) or not all([fits_pattern(row) for row in value]):
        return False
    return sum([pattern_measure(row)[0] for row in value]) <= MOST_ROWS_SIZE


def is_shape_head(value):
    if not begins_with_word(value) or value[0] != "shape" or len(value) != 3:
        return False
    return is_tag(value[1]) and is_integer(value[2], 0, MOST_PARTS)


def is_number_head(value):
    return begins_with_word(value) and value[0] == "num" and len(value) == 2 and is_number(value[1])


def is_head(value):
    return is_number_head(value) or is_shape_head(value)


def is_place(value):
    return type(value) is tuple and all([is_integer(index, 0, MOST_PARTS - 1) for index in value])


def asked_heads(pattern):
    """The pairs (place, head) that a pattern asks for, those of a place ahead of those of its parts."""
    asked = []
    waiting = [((), pattern)]
    while waiting:
        place, one = waiting.pop()
        if one[0] == "numis":
            asked.append((place, ("num", one[1])))
        elif one[0] == "shapeis":
            asked.append((place, ("shape", one[1], len(one[2]))))
            waiting.extend([(place + (at,), part) for at, part in enumerate(one[2])][::-1])
    return asked


def head_at(asked, place):
    """The head that is asked for at a place, None if none is."""
    for where, head in asked:
        if where == place:
            return head
    return None


def left_with_head(rows, place, head):
    """Of pairs (index, heads asked for), those that a head at a place lets, without what it answers."""
    left = []
    for index, asked in rows:
        if head_at(asked, place) in (None, head):
            left.append((index, [pair for pair in asked if pair[0] != place]))
    return left


def left_without_head(rows, place):
    """Of pairs (index, heads asked for), those that ask for nothing at a place."""
    return [row for row in rows if head_at(row[1], place) is None]


def heads_at(rows, place):
    """The ascending list of the heads that some of the pairs (index, heads asked for) ask for at a place."""
    heads = {}
    for _, asked in rows:
        head = head_at(asked, place)
        if head is not None:
            heads[head] = True
    return sorted(heads)


def may_be_looked_at(found, place):
    """Whether there surely is something at a place, by the table of the heads that are found."""
    if place == ():
        return True
    head = found.get(place[:-1])
    return head is not None and head[0] == "shape" and head[2] > place[-1]


def with_entry(table, key, told):
    """The table with another entry."""
    grown = {one: table[one] for one in table}
    grown[key] = told
    return grown
