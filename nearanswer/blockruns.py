"""Runs of carried programs from their blocks, told without checks.

Values are ("num", number), ("shape", tag, parts, size, depth), ("block", index, names) with a table of the values of
the kept names, and ("rest", frames).
"""

from nearanswer.bindings import with_told
from nearanswer.errors import TooMany
from nearanswer.treeforms import MOST_DEPTH, MOST_SIZE, parts_in
from nearanswer.work import fitted, row_in, stuck_at, worked_out


def size_of(value):
    if value[0] == "shape":
        return value[3]
    return 1


def depth_of(value):
    if value[0] == "shape":
        return value[4]
    return 1


def shape_made(tag, parts):
    """The shape with these values as parts; TooMany if it is too great or too deep."""
    size = 1 + sum([size_of(part) for part in parts])
    depth = 1 + max([depth_of(part) for part in parts], default=0)
    if size > MOST_SIZE:
        raise TooMany(MOST_SIZE)
    if depth > MOST_DEPTH:
        raise TooMany(MOST_DEPTH)
    return ("shape", tag, tuple(parts), size, depth)


def shown_made(value):
    """The shown form of a value."""
    if value[0] == "num":
        return value[1]
    if value[0] != "shape":
        return "fun"
    parts = []
    for part in value[2]:
        parts.append(shown_made(part))
    return (value[1], tuple(parts))


class BlockRun:
    """A carried program on its way: a tree that is worked out with a table of the values of names, or a given value.

    The line of what is waiting has the nearest one last: ("let", name, body, names) and ("answer", plain, rows, names).
    """

    def __init__(self, carried):
        self.blocks = carried[0]
        self.waiting = ()
        self.go(carried[1], {})

    def go(self, tree, names):
        """Works out a tree from now on."""
        self.here = tree
        self.names = names
        self.given = None

    def hand(self, value):
        """Gives a value to what waits from now on."""
        self.here = None
        self.given = value

    def settle(self):
        """Does all that is no step; thereby shapes are made."""
        while self.here is not None and self.here[0] in ("let", "answer"):
            tree = self.here
            if tree[0] == "let":
                self.waiting = self.waiting + (("let", tree[1], tree[3], self.names),)
                self.go(tree[2], self.names)
            else:
                self.waiting = self.waiting + (("answer", tree[2], tree[3], self.names),)
                self.go(tree[1], self.names)
        if self.here is not None and self.here[0] in ("num", "name", "shape", "make"):
            self.hand(self.value_of(self.here))

    def value_of(self, tree):
        """The value of an atom, of a shape of atoms, or of a make."""
        if tree[0] == "name":
            return self.names[tree[1]]
        if tree[0] == "shape":
            return shape_made(tree[1], self.part_values(tree))
        if tree[0] == "make":
            kept = self.blocks[tree[1]][1]
            return ("block", tree[1], {name: self.names[name] for name in kept})
        return tree

    def part_values(self, tree):
        """The values of all parts of a tree, which are atoms."""
        values = []
        for part in parts_in(tree):
            values.append(self.value_of(part))
        return values

    def answerer_at(self, deed):
        """The place in the line of the nearest answerer for a deed, None if there is none."""
        for at in range(len(self.waiting) - 1, -1, -1):
            if self.waiting[at][0] == "answer" and row_in(self.waiting[at][2], deed) is not None:
                return at
        return None

    def ending(self):
        """The shown form of the end, None if a step is done."""
        if self.here is None:
            if len(self.waiting) > 0:
                return None
            return ("value", shown_made(self.given))
        if self.here[0] == "do":
            if self.answerer_at(self.here[1]) is not None:
                return None
            return ("unanswered", self.here[1], shown_made(self.value_of(self.here[2])))
        reason = self.stuck_reason()
        if reason is None:
            return None
        return ("stuck", reason)

    def stuck_reason(self):
        """The reason for which the tree that is worked out, no do, is stuck; None if it is not."""
        tree = self.here
        if tree[0] == "match":
            return stuck_at(("match", self.value_of(tree[1]), tree[2]))
        one, two = self.part_values(tree)
        if tree[0] == "op":
            return stuck_at(("op", tree[1], one, two))
        if one[0] == "block" or one[0] == "rest":
            return None
        return "call"

    def advance(self):
        """Does a step, and all behind it that is none; returns its word."""
        if self.here is None:
            word = self.take_value()
        else:
            word = self.work_out()
        self.settle()
        return word

    def take_value(self):
        """A waiting let, or the plain pair of a waiting answerer, takes the given value."""
        frame = self.waiting[-1]
        self.waiting = self.waiting[:-1]
        if frame[0] == "let":
            _, name, body, names = frame
            self.go(body, {**names, name: self.given})
            return "let"
        _, plain, _, names = frame
        self.go(plain[1], {**names, plain[0]: self.given})
        return "plain"

    def work_out(self):
        tree = self.here
        if tree[0] == "match":
            self.take_row(self.value_of(tree[1]), tree[2])
            return "match"
        if tree[0] == "do":
            self.answer(tree[1], self.value_of(tree[2]))
            return "deed"
        one, two = self.part_values(tree)
        if tree[0] == "op":
            self.take_result(worked_out(tree[1], one[1], two[1]))
            return "op"
        self.call(one, two)
        return "call"

    def take_row(self, value, rows):
        for pattern, body in rows:
            table = fitted(pattern, value)
            if table is not None:
                self.go(body, with_told(self.names, table))
                return

    def take_result(self, result):
        if result[0] == "shape":
            self.hand(shape_made(result[1], ()))
        else:
            self.hand(result)

    def answer(self, deed, value):
        """The nearest answerer, and what waits nearer, leave the line, and are the rest."""
        at = self.answerer_at(deed)
        left = self.waiting[at:]
        _, _, rows, names = left[0]
        _, entry, rest, body = row_in(rows, deed)
        self.waiting = self.waiting[:at]
        self.go(body, {**names, entry: value, rest: ("rest", left)})

    def call(self, one, two):
        if one[0] == "rest":
            self.waiting = self.waiting + one[1]
            self.hand(two)
            return
        _, index, kept = one
        own, _, entry, body = self.blocks[index]
        names = {**kept, entry: two}
        if own == "":
            self.go(body, names)
        else:
            # The block is given to its own name by a step of its own, so that a let waits for it.
            self.waiting = self.waiting + (("let", own, body, names),)
            self.hand(one)


def led_by_blocks(carried, most):
    """The shown form of the end, or ("more",), and the words of the steps that are done."""
    run = BlockRun(carried)
    run.settle()
    words = []
    while len(words) < most and run.ending() is None:
        words.append(run.advance())
    end = run.ending()
    if end is None:
        return (("more",), words)
    return (end, words)
