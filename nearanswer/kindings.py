"""Kindings put into a store of kinds, matched with it, and told of it."""

from nearanswer.kindforms import open_marks, tail_marks
from nearanswer.kindstore import counted, taken_off


def plain_told(kinding):
    """The plain kinding that differs from a kinding in indices alone."""
    opens = {}
    tails = {}
    for word, index in open_marks(kinding[0]) + tail_marks(kinding[1]):
        table = tails
        if word == "open":
            table = opens
        if index not in table:
            table[index] = len(table)
    return (renumbered(kinding[0], opens, tails), renumbered_row(kinding[1], tails))


def renumbered(kind, opens, tails):
    if kind[0] == "open":
        return ("open", opens[kind[1]])
    if kind[0] == "fun":
        entry = renumbered(kind[1], opens, tails)
        return ("fun", entry, renumbered_row(kind[2], tails), renumbered(kind[3], opens, tails))
    if kind[0] == "sort":
        parts = []
        for part in kind[2]:
            parts.append(renumbered(part, opens, tails))
        return ("sort", kind[1], tuple(parts))
    return kind


def renumbered_row(row, tails):
    if row[1] is None:
        return row
    return (row[0], tails[row[1]])


def put_into(store, kind, opens, tails):
    """The number of a kind in a store; the tables tell what stands for open indices there, and grow."""
    if kind[0] == "open":
        if kind[1] not in opens:
            opens[kind[1]] = store.fresh()
        return opens[kind[1]]
    if kind[0] == "fun":
        entry = put_into(store, kind[1], opens, tails)
        row = row_put_into(store, kind[2], tails)
        return store.made(("fun", entry, row, put_into(store, kind[3], opens, tails)))
    if kind[0] == "sort":
        parts = []
        for part in kind[2]:
            parts.append(put_into(store, part, opens, tails))
        return store.made(("sort", kind[1], tuple(parts)))
    return store.made(kind)


def row_put_into(store, row, tails):
    tail = row[1]
    if tail is None:
        return (counted(row[0]), None)
    if tail not in tails:
        tails[tail] = store.fresh_tail()
    return (counted(row[0]), tails[tail])


def kinding_put_into(store, kinding):
    """The pair of the number of the kind of a kinding and of its row, all its open ones being new in the store."""
    tails = {}
    kind = put_into(store, kinding[0], {}, tails)
    return (kind, row_put_into(store, kinding[1], tails))


def kinding_from(store, kind, row):
    """The plain kinding of a kind and a row in a store, with the errors of a greater one."""
    store.check_bounds(kind, row)
    return plain_told((store.told(kind), store.told_row(row)))


def is_instance_of(store, kind, row, narrow):
    """Whether a kinding is an instance of a kind and a row in a store."""
    rows = [(row, narrow[1])]
    opens = {}
    waiting = [(kind, narrow[0])]
    while waiting:
        wide, one = waiting.pop()
        wide = store.looked_at(wide)
        shape = store.shapes[wide]
        if shape is None:
            if opens.get(wide, one) != one:
                return False
            opens[wide] = one
        elif shape[0] != one[0] or (one[0] == "sort" and shape[1] != one[1]):
            return False
        elif one[0] == "fun":
            rows.append((shape[2], one[2]))
            waiting.append((shape[1], one[1]))
            waiting.append((shape[3], one[3]))
        elif one[0] == "sort":
            waiting.extend(list(zip(shape[2], one[2])))
    return are_row_instances(store, rows)


def are_row_instances(store, rows):
    """Whether of all pairs of a row in a store, and of a deed row, the second one can come of the first one."""
    tails = {}
    for wide, narrow in rows:
        table, tail = store.settled(wide)
        deeds = counted(narrow[0])
        rest = (taken_off(deeds, table), narrow[1])
        if len(taken_off(table, deeds)) > 0:
            return False
        if tail is None:
            if rest != ({}, None):
                return False
        elif tails.get(tail, rest) != rest:
            return False
        else:
            tails[tail] = rest
    return True
