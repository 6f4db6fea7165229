"""Codes read back as programs, told of codes without checks."""

from nearanswer.bindings import lump_at, plain
from nearanswer.codeforms import binds_in
from nearanswer.coding import code_from
from nearanswer.treeforms import MOST_DEPTH, fits_tree, is_name

# What stands for a tree where no program has such orders.
BROKEN = ("broken",)
LINE_ENDS = ("free", "go", "lack", "plain", "return")
# Each tree in a program binds two names at most, if those of a row are counted with its body.
MOST_NAMED = 6000


def program_from(code):
    """The program with plain names whose code it is, None if there is none."""
    decoder = Decoder(code)
    tree = decoder.block(0, (), 1)
    if decoder.is_broken or not fits_tree(tree):
        return None
    program = plain(tree)
    if code_from(program) != code:
        return None
    return program


def with_names(pattern, names, at):
    """A flat pattern with the names from an index on, and the index behind the last one used."""
    if pattern[0] == "bind":
        return (("bind", names[at]), at + 1)
    if pattern[0] != "shapeis":
        return (pattern, at)
    inner = []
    for part in pattern[2]:
        told, at = with_names(part, names, at)
        inner.append(told)
    return ((pattern[0], pattern[1], tuple(inner)), at)


class Decoder:
    """Reads orders as those of a tree, each one once at most, wherever orders say that they lead.

    What comes is looked at by its own code; here only that is found broken which would hinder reading.
    """

    def __init__(self, code):
        self.code = code
        self.many_read = 0
        self.many_named = 0
        self.next_lump = 0
        self.is_broken = False

    def fail(self):
        self.is_broken = True
        return BROKEN

    def new_names(self, many):
        """So many names that have not been used."""
        names = []
        self.many_named = self.many_named + many
        if self.many_named > MOST_NAMED:
            self.fail()
        while len(names) < many:
            lump = lump_at(self.next_lump)
            self.next_lump = self.next_lump + 1
            if is_name(lump):
                names.append(lump)
        return tuple(names)

    def orders_in(self, index):
        """The orders of the block that begins next, none if it is not that with an index."""
        if index != self.many_read or index >= len(self.code):
            self.fail()
            return ()
        self.many_read = self.many_read + 1
        return self.code[index][2]

    def block(self, index, bound, depth):
        """The tree of a block."""
        tree, _ = self.line(self.orders_in(index), 0, bound, depth)
        return tree

    def line(self, orders, at, bound, depth):
        """The tree of the orders from a place on, and the place of the order that ends them."""
        trees = []
        if depth > MOST_DEPTH:
            self.fail()
        while not self.is_broken and at < len(orders) and orders[at][0] not in LINE_ENDS:
            at = self.read_order(orders, at, bound, depth, trees)
        if len(trees) != 1:
            return (self.fail(), at)
        return (trees[0], at)

    def read_order(self, orders, at, bound, depth, trees):
        """Puts the tree of an order, and of those that belong to it, behind the trees so far; returns where it ends."""
        word = orders[at][0]
        if word == "bind":
            one = self.taken(trees, 1)[0]
            names = self.new_names(1)
            body, end = self.line(orders, at + 1, bound + names, depth + 1)
            trees.append(("let", names[0], one, body))
            return end + 1
        if word == "own":
            names = self.new_names(2)
            made = self.block(orders[at][1], bound + names, depth + 1)
            # The next order binds the name.
            body, end = self.line(orders, at + 2, bound + names[:1], depth + 1)
            trees.append(("rec", names[0], names[1], made, body))
            return end + 1
        if word == "test":
            one = self.taken(trees, 1)[0]
            rows, end = self.rows(orders, at, bound, depth)
            trees.append(("match", one, rows))
            return end + 1
        if word == "fun":
            names = self.new_names(1)
            trees.append(("fun", names[0], self.block(orders[at][1], bound + names, depth + 1)))
        elif word == "answer":
            trees.append(self.answerer(orders[at], bound, depth))
        else:
            trees.append(self.joined(orders[at], bound, trees))
        return at + 1

    def taken(self, trees, many):
        """The last trees, which are taken away."""
        if len(trees) < many:
            self.fail()
            return [BROKEN] * many
        parts = []
        for _ in range(many):
            parts.append(trees.pop())
        return parts[::-1]

    def rows(self, orders, at, bound, depth):
        """The rows of a match whose first test has a place, and the place behind its last row."""
        rows = []
        while not self.is_broken and at < len(orders) and orders[at][0] == "test":
            pattern = orders[at][1]
            names = self.new_names(binds_in(pattern))
            body, end = self.line(orders, at + 1, bound + names, depth + 1)
            named, _ = with_names(pattern, names, 0)
            rows.append((named, body))
            # Names are freed ahead of the go.
            at = end + 1 + min(len(names), 1)
        return (tuple(rows), at)

    def joined(self, order, bound, trees):
        """The tree of an order that binds no names, of the last trees as its parts."""
        word = order[0]
        if word == "num":
            return order
        if word == "get":
            if order[1] >= len(bound):
                return self.fail()
            return ("name", bound[-1 - order[1]])
        if word == "call":
            return ("call",) + tuple(self.taken(trees, 2))
        if word == "op":
            return order + tuple(self.taken(trees, 2))
        if word == "do":
            return order + tuple(self.taken(trees, 1))
        return ("shape", order[1], tuple(self.taken(trees, order[2])))

    def answerer(self, order, bound, depth):
        _, index, blocks = order
        orders = self.orders_in(index)
        one, end = self.line(orders, 0, bound, depth + 1)
        names = self.new_names(1)
        # "plain" and "bind" stand between the one and the plain body.
        body, _ = self.line(orders, end + 2, bound + names, depth + 1)
        rows = []
        for deed, block in blocks:
            both = self.new_names(2)
            inner, _ = self.line(self.orders_in(block), 0, bound + both, depth + 1)
            rows.append((deed,) + both + (inner,))
        return ("answer", one, (names[0], body), tuple(rows))
