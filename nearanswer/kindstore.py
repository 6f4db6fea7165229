"""A store of kinds that are made alike, step by step.

Kinds are numbered, and stand in the store as they are known so far, so that one that stands at many places is there
once: the kind of a short program can be far too great to be written out. A row is a pair of a table of how often each
deed stands in it, and of the number of its open tail, or None.

The shape of a kind is None for an open one; ("num",), ("fun", kind, row, kind) or ("sort", name, kinds); or
("copy", scheme), a copy of a scheme that is made only when something asks what it looks like: copies of copies would
be too many.
"""

from nearanswer.errors import TooMany
from nearanswer.kindforms import MOST_KINDING, MOST_KINDING_DEPTH


def added(table, other):
    """The table of how often deeds stand in two rows together."""
    total = {deed: table[deed] for deed in table}
    for deed in other:
        total[deed] = total.get(deed, 0) + other[deed]
    return total


def taken_off(table, other):
    """The table of the deeds that stand in a row more often than in the other one, and how much more often."""
    left = {}
    for deed in table:
        more = table[deed] - other.get(deed, 0)
        if more > 0:
            left[deed] = more
    return left


def counted(deeds):
    """The table of how often each deed stands in a tuple."""
    table = {}
    for deed in deeds:
        table[deed] = table.get(deed, 0) + 1
    return table


def spelled(table):
    """The tuple of the deeds of a table, each as often as it stands in it."""
    deeds = []
    for deed in sorted(table):
        deeds.extend([deed] * table[deed])
    return tuple(deeds)


class KindStore:
    """Kinds by numbers, each with its shape; links lead from a kind to the one that it has become."""

    def __init__(self):
        self.links = []
        self.shapes = []
        self.tails = []
        self.clash = False

    def made(self, shape):
        """The number of a new kind of a shape, with the numbers of kinds, and rows, in it."""
        self.links.append(len(self.links))
        self.shapes.append(shape)
        return len(self.links) - 1

    def fresh(self):
        return self.made(None)

    def fresh_tail(self):
        self.tails.append(None)
        return len(self.tails) - 1

    def fresh_row(self):
        return ({}, self.fresh_tail())

    def found(self, kind):
        """The number of what a kind has become."""
        links = self.links
        while links[kind] != kind:
            links[kind] = links[links[kind]]
            kind = links[kind]
        return kind

    def looked_at(self, kind):
        """The number of what a kind has become, a copy being made first."""
        kind = self.found(kind)
        while self.is_copy(kind):
            self.links[kind] = self.copy_made(self.shapes[kind][1])
            kind = self.found(kind)
        return kind

    def is_copy(self, kind):
        shape = self.shapes[kind]
        return shape is not None and shape[0] == "copy"

    def settled(self, row):
        """The row with all that is known of its tail."""
        table, tail = row
        while tail is not None and self.tails[tail] is not None:
            more, tail = self.tails[tail]
            if len(more) > 0:
                table = added(table, more)
        return (table, tail)

    def inner(self, shape):
        """The numbers of the kinds in a shape."""
        if shape is None or shape[0] == "num" or shape[0] == "copy":
            return []
        if shape[0] == "fun":
            return [shape[1], shape[3]]
        return list(shape[2])

    def behind(self, shape):
        """The numbers of the kinds in a shape, or of the kind that it is a copy of."""
        if shape is not None and shape[0] == "copy":
            return [shape[1][0]]
        return self.inner(shape)

    def unite(self, one, other):
        """Two kinds are made the same. A clash stays, if they can't be."""
        waiting = [(one, other)]
        while waiting and not self.clash:
            first, second = waiting.pop()
            first = self.found(first)
            second = self.found(second)
            shape = self.shapes[first]
            become = self.shapes[second]
            if first == second:
                continue
            if become is None or self.are_same_copies(shape, become):
                self.links[second] = first
            elif shape is None:
                self.links[first] = second
            elif shape[0] == "copy" or become[0] == "copy":
                waiting.append((self.looked_at(first), self.looked_at(second)))
            else:
                self.links[first] = second
                self.unite_shapes(shape, become)
                waiting.extend(list(zip(self.inner(shape), self.inner(become))))

    def are_same_copies(self, shape, other):
        """Whether both are copies of one scheme; then one of them does for both, as nothing else is known of them."""
        if shape is None or shape[0] != "copy" or other[0] != "copy":
            return False
        return shape[1][0] == other[1][0]

    def unite_shapes(self, shape, other):
        """What is seen of two shapes without their kinds is made the same."""
        if shape[0] != other[0]:
            self.clash = True
        elif shape[0] == "fun":
            self.unite_rows(shape[2], other[2])
        elif shape[0] == "sort" and shape[1] != other[1]:
            self.clash = True

    def unite_rows(self, one, other):
        """Two rows are made the same: the deeds that only one of them has go to the tail of the other one."""
        table, tail = self.settled(one)
        other_table, other_tail = self.settled(other)
        left = taken_off(table, other_table)
        right = taken_off(other_table, table)
        if tail == other_tail:
            if len(left) > 0 or len(right) > 0:
                self.clash = True
        elif other_tail is not None and len(right) == 0:
            self.tails[other_tail] = (left, tail)
        elif tail is not None and len(left) == 0:
            self.tails[tail] = (right, other_tail)
        elif tail is None or other_tail is None:
            self.clash = True
        else:
            shared = self.fresh_tail()
            self.tails[tail] = (right, shared)
            self.tails[other_tail] = (left, shared)

    def reached(self, kinds):
        """The table of all kinds in some kinds, these among them, and that of the open tails in them."""
        seen = {}
        tails = {}
        waiting = list(kinds)
        while waiting:
            kind = self.found(waiting.pop())
            if kind not in seen:
                seen[kind] = True
                shape = self.shapes[kind]
                waiting.extend(self.inner(shape))
                if shape is not None and shape[0] == "fun":
                    _, tail = self.settled(shape[2])
                    if tail is not None:
                        tails[tail] = True
        return (seen, tails)

    def scheme(self, kind, held):
        """A kind with the tables of the kinds and of the tails in it that do not stand in those that are held."""
        kinds, tails = self.reached([kind])
        held_kinds, held_tails = self.reached(held)
        own_kinds = {one: True for one in kinds if one not in held_kinds}
        own_tails = {one: True for one in tails if one not in held_tails}
        is_closed = len(own_kinds) == len(kinds) and len(own_tails) == len(tails)
        return (self.found(kind), own_kinds, own_tails, is_closed)

    def copied(self, scheme):
        """A new kind that is as that of a scheme, but for its own open kinds and tails, which are new ones."""
        if scheme[3]:
            return self.made(("copy", scheme))
        return self.copy_made(scheme)

    def copy_made(self, scheme):
        kind, own_kinds, own_tails, _ = scheme
        new = {one: self.fresh() for one in own_kinds}
        new_tails = {tail: self.fresh_tail() for tail in own_tails}
        for one in own_kinds:
            shape = self.shapes[one]
            if shape is not None and shape[0] == "fun":
                table, tail = self.settled(shape[2])
                row = (table, new_tails.get(tail, tail))
                shape = ("fun", self.new_for(shape[1], new), row, self.new_for(shape[3], new))
            elif shape is not None and shape[0] == "sort":
                shape = ("sort", shape[1], tuple([self.new_for(part, new) for part in shape[2]]))
            self.shapes[new[one]] = shape
        return self.new_for(kind, new)

    def new_for(self, kind, new):
        kind = self.found(kind)
        return new.get(kind, kind)

    def ordered(self, kinds):
        """All kinds in some kinds, each behind those that stand in it; None if one stands in itself."""
        done = {}
        order = []
        waiting = [(kind, False) for kind in kinds]
        while waiting:
            kind, is_left = waiting.pop()
            kind = self.found(kind)
            if is_left:
                done[kind] = True
                order.append(kind)
            elif kind not in done:
                done[kind] = False
                waiting.append((kind, True))
                waiting.extend([(part, False) for part in self.behind(self.shapes[kind])])
            elif not done[kind]:
                return None
        return order

    def holds(self):
        """Whether all kinds can be as they were made: none clashes, and none stands in itself."""
        return not self.clash and self.ordered(list(range(len(self.links)))) is not None

    def check_bounds(self, kind, row):
        """TooMany for a kinding that is too great, or too deep."""
        table, _ = self.settled(row)
        size, depth = self.measured(kind)
        if size + sum(list(table.values())) > MOST_KINDING:
            raise TooMany(MOST_KINDING)
        if depth > MOST_KINDING_DEPTH:
            raise TooMany(MOST_KINDING_DEPTH)

    def measured(self, kind):
        """The size and the depth of a kind; a size above the bound may be told too small."""
        sizes = {}
        depths = {}
        for one in self.ordered([kind]):
            shape = self.shapes[one]
            parts = [self.found(part) for part in self.behind(shape)]
            own = 1
            if self.is_copy(one):
                own = 0
            elif shape is not None and shape[0] == "fun":
                own = 1 + sum(list(self.settled(shape[2])[0].values()))
            # Sizes can grow beyond all measure; what is above the bound needs no telling apart.
            sizes[one] = min(own + sum([sizes[part] for part in parts]), MOST_KINDING + 1)
            depths[one] = min(own, 1) + max([depths[part] for part in parts], default=0)
        kind = self.found(kind)
        return (sizes[kind], depths[kind])

    def told(self, kind):
        """A kind written out; open kinds and tails have their numbers in the store."""
        kind = self.looked_at(kind)
        shape = self.shapes[kind]
        if shape is None:
            return ("open", kind)
        if shape[0] == "num":
            return shape
        if shape[0] == "fun":
            return ("fun", self.told(shape[1]), self.told_row(shape[2]), self.told(shape[3]))
        parts = []
        for part in shape[2]:
            parts.append(self.told(part))
        return ("sort", shape[1], tuple(parts))

    def told_row(self, row):
        table, tail = self.settled(row)
        return (spelled(table), tail)
