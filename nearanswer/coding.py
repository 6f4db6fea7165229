"""Codes of programs, told without checks."""

from nearanswer.treeforms import parts_in, pattern_names


def code_from(program):
    """The code of a program."""
    coder = Coder()
    coder.block("run", program, ())
    return tuple(coder.blocks)


def flat_pattern(pattern):
    """A pattern without its names."""
    if pattern[0] == "bind":
        return ("bind",)
    if pattern[0] != "shapeis":
        return pattern
    inner = []
    for part in pattern[2]:
        inner.append(flat_pattern(part))
    return (pattern[0], pattern[1], tuple(inner))


class Coder:
    """Gathers the blocks of a code in the order in which they begin in the text of a program.

    The names that are bound at a place are told by a tuple, the innermost one last.
    """

    def __init__(self):
        self.blocks = []

    def block(self, kind, body, bound):
        """The index of a new block with the orders of a body."""
        index = self.begin()
        self.fill(index, kind, bound, self.orders_of(body, bound, 0))
        return index

    def begin(self):
        """The index of a new block, whose place is held until its orders are there."""
        self.blocks.append(None)
        return len(self.blocks) - 1

    def fill(self, index, kind, bound, orders):
        self.blocks[index] = (kind, len(bound), tuple(orders + [("return",)]))

    def orders_of(self, tree, bound, at):
        """The list of the orders of a tree, the first one of which has a place in its block."""
        word = tree[0]
        if word == "num":
            return [tree]
        if word == "name":
            return [("get", bound[::-1].index(tree[1]))]
        if word == "fun":
            return [("fun", self.block("fun", tree[2], bound + (tree[1],)))]
        if word == "let":
            orders = self.orders_of(tree[2], bound, at)
            return orders + self.scope_orders(tree[1], tree[3], bound, at + len(orders))
        if word == "rec":
            own = ("own", self.block("own", tree[3], bound + tree[1:3]))
            return [own] + self.scope_orders(tree[1], tree[4], bound, at + 1)
        if word == "match":
            return self.match_orders(tree, bound, at)
        if word == "answer":
            return [self.answer_order(tree, bound)]
        orders = []
        for part in parts_in(tree):
            orders = orders + self.orders_of(part, bound, at + len(orders))
        return orders + [last_order(tree)]

    def scope_orders(self, name, body, bound, at):
        """The orders that bind a name, those of a body, and the one that frees the name."""
        return [("bind",)] + self.orders_of(body, bound + (name,), at + 1) + [("free", 1)]

    def match_orders(self, tree, bound, at):
        orders = self.orders_of(tree[1], bound, at)
        begins = []
        goes = []
        for pattern, body in tree[2]:
            names = tuple(pattern_names(pattern))
            begins.append(len(orders))
            inner = self.orders_of(body, bound + names, at + len(orders) + 1)
            # Where a test leads, and a go, is told when all rows are there.
            orders = orders + [("test", flat_pattern(pattern))] + inner
            if len(names) > 0:
                orders.append(("free", len(names)))
            goes.append(len(orders))
            orders.append(("go", at))
        begins.append(len(orders))
        orders.append(("lack",))
        for here, there in zip(begins, begins[1:]):
            orders[here] = orders[here] + (at + there,)
        for here in goes:
            orders[here] = ("go", at + len(orders))
        return orders

    def answer_order(self, tree, bound):
        _, one, pair, rows = tree
        index = self.begin()
        orders = self.orders_of(one, bound, 0) + [("plain",), ("bind",)]
        orders = orders + self.orders_of(pair[1], bound + (pair[0],), len(orders))
        self.fill(index, "answer", bound, orders)
        blocks = []
        for deed, entry, rest, body in rows:
            blocks.append((deed, self.block("row", body, bound + (entry, rest))))
        return ("answer", index, tuple(blocks))


def last_order(tree):
    """The order behind those of the parts of a call, an op, a shape or a do."""
    word = tree[0]
    if word == "call":
        return ("call",)
    if word == "shape":
        return ("shape", tree[1], len(tree[2]))
    return (word, tree[1])
