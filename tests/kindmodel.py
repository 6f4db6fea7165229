"""Kinds told as [14] tells them, word by word: the one of a let, or the made of a rec, is kinded anew at each place.

Kinds are written out, with ("var", number) for what is not known yet; so it is slow, and for small programs alone.
"""

from collections import Counter


class Clash(Exception):
    pass


def still(tree):
    return tree[0] in ("name", "num", "fun") or (tree[0] == "shape" and all(still(part) for part in tree[2]))


class KindModel:

    def __init__(self, book, lot=None):
        self.lot = lot
        self.tags = {"No": ("truth", 0, ()), "Yes": ("truth", 0, ())}
        for sort, many, tags in book[0]:
            for tag, kinds in tags:
                self.tags[tag] = (sort, many, kinds)
        self.deeds = {deed: (asked, given) for deed, asked, given in book[1]}
        self.known = {}
        self.rows = {}
        self.count = 0

    def var(self):
        self.count += 1
        return ("var", self.count)

    def row(self):
        self.count += 1
        return (Counter(), self.count)

    def seen(self, kind):
        while kind[0] == "var" and kind in self.known:
            kind = self.known[kind]
        return kind

    def seen_row(self, row):
        deeds, tail = row
        while tail in self.rows:
            more, tail = self.rows[tail]
            deeds = deeds + more
        return deeds, tail

    def occurs(self, var, kind):
        kind = self.seen(kind)
        if kind[0] == "fun":
            return self.occurs(var, kind[1]) or self.occurs(var, kind[3])
        if kind[0] == "sort":
            return any(self.occurs(var, part) for part in kind[2])
        return kind == var

    def same(self, one, other):
        one, other = self.seen(one), self.seen(other)
        if one == other and one[0] in ("var", "num"):
            return
        if one[0] == "var" or other[0] == "var":
            var, kind = (one, other) if one[0] == "var" else (other, one)
            if self.occurs(var, kind):
                raise Clash()
            self.known[var] = kind
            return
        if one[0] != other[0] or (one[0] == "sort" and one[1] != other[1]):
            raise Clash()
        if one[0] == "fun":
            self.same(one[1], other[1])
            self.same_rows(one[2], other[2])
            self.same(one[3], other[3])
        if one[0] == "sort":
            for part, inner in zip(one[2], other[2]):
                self.same(part, inner)

    def same_rows(self, one, other):
        (deeds, tail), (more, end) = self.seen_row(one), self.seen_row(other)
        left, right = deeds - more, more - deeds
        if tail == end:
            if left or right:
                raise Clash()
            return
        if (right and tail is None) or (left and end is None):
            raise Clash()
        shared = None if tail is None or end is None else self.row()[1]
        if tail is not None:
            self.rows[tail] = (right, shared)
        if end is not None:
            self.rows[end] = (left, shared)

    def told(self, kind, opens):
        """A kind of the book, with kinds put for its open ones."""
        if kind[0] == "open":
            return opens[kind[1]]
        if kind[0] == "fun":
            return ("fun", self.told(kind[1], opens), (Counter(kind[2][0]), None), self.told(kind[3], opens))
        if kind[0] == "sort":
            return ("sort", kind[1], tuple(self.told(part, opens) for part in kind[2]))
        return kind

    def shape(self, tag, kinds):
        if tag not in self.tags or len(self.tags[tag][2]) != len(kinds):
            raise Clash()
        sort, many, told = self.tags[tag]
        opens = [self.var() for _ in range(many)]
        for kind, one in zip(kinds, told):
            self.same(kind, self.told(one, opens))
        return ("sort", sort, tuple(opens))

    def deed(self, deed):
        if deed not in self.deeds:
            raise Clash()
        return tuple(self.told(kind, []) for kind in self.deeds[deed])

    def pattern(self, pattern, names):
        if pattern[0] == "numis":
            return ("num",)
        if pattern[0] == "shapeis":
            return self.shape(pattern[1], [self.pattern(part, names) for part in pattern[2]])
        kind = self.var()
        if pattern[0] == "bind":
            names[pattern[1]] = lambda: kind
        return kind


    def unruled(self, tree, path, names):
        """A part without its rule: what it binds is whatever each place asks for."""
        def free(*bound):
            return {**names, **{name: self.var for name in bound}}
        word = tree[0]
        if word == "fun":
            self.part(tree[2], path + (0,), free(tree[1]))
        elif word == "let":
            self.part(tree[2], path + (0,), names)
            self.part(tree[3], path + (1,), free(tree[1]))
        elif word == "rec":
            self.part(tree[3], path + (0,), free(tree[1], tree[2]))
            self.part(tree[4], path + (1,), free(tree[1]))
        elif word == "match":
            self.part(tree[1], path + (0,), names)
            for at, (pattern, body) in enumerate(tree[2]):
                self.part(body, path + (at + 1,), free(*names_of(pattern)))
        elif word == "answer":
            self.part(tree[1], path + (0,), names)
            self.part(tree[2][1], path + (1,), free(tree[2][0]))
            for at, (_, entry, rest, body) in enumerate(tree[3]):
                self.part(body, path + (at + 2,), free(entry, rest))
        else:
            for at, part in enumerate(plain_parts(tree)):
                self.part(part, path + (at,), names)
        return self.var(), self.row()

    def part(self, tree, path, names):
        if self.lot is not None and path not in self.lot:
            return self.unruled(tree, path, names)
        return getattr(self, "part_" + tree[0])(tree, path, names)

    def part_num(self, tree, path, names):
        return ("num",), self.row()

    def part_name(self, tree, path, names):
        return names[tree[1]](), self.row()

    def part_fun(self, tree, path, names):
        entry = self.var()
        kind, row = self.part(tree[2], path + (0,), {**names, tree[1]: lambda: entry})
        return ("fun", entry, row, kind), self.row()

    def part_call(self, tree, path, names):
        one, row = self.part(tree[1], path + (0,), names)
        two, other = self.part(tree[2], path + (1,), names)
        kind = self.var()
        self.same(one, ("fun", two, row, kind))
        self.same_rows(row, other)
        return kind, row

    def part_let(self, tree, path, names):
        kind, row = self.part(tree[2], path + (0,), names)
        if still(tree[2]):
            told = lambda: self.part(tree[2], path + (0,), names)[0]
        else:
            told = lambda: kind
        body, body_row = self.part(tree[3], path + (1,), {**names, tree[1]: told})
        self.same_rows(row, body_row)
        return body, body_row

    def part_rec(self, tree, path, names):
        def made():
            own = ("fun", self.var(), self.row(), self.var())
            inner = {**names, tree[1]: lambda: own, tree[2]: lambda: own[1]}
            kind, row = self.part(tree[3], path + (0,), inner)
            self.same(kind, own[3])
            self.same_rows(row, own[2])
            return own
        made()
        return self.part(tree[4], path + (1,), {**names, tree[1]: made})

    def part_shape(self, tree, path, names):
        row = self.row()
        kinds = []
        for at, part in enumerate(tree[2]):
            kind, other = self.part(part, path + (at,), names)
            self.same_rows(row, other)
            kinds.append(kind)
        return self.shape(tree[1], kinds), row

    def part_match(self, tree, path, names):
        kind, row = self.part(tree[1], path + (0,), names)
        result = self.var()
        for at, (pattern, body) in enumerate(tree[2]):
            inner = dict(names)
            self.same(kind, self.pattern(pattern, inner))
            one, other = self.part(body, path + (at + 1,), inner)
            self.same(one, result)
            self.same_rows(other, row)
        return result, row

    def part_op(self, tree, path, names):
        row = self.row()
        for at in (2, 3):
            kind, other = self.part(tree[at], path + (at - 2,), names)
            self.same(kind, ("num",))
            self.same_rows(row, other)
        return (("num",) if tree[1] in "+-*" else ("sort", "truth", ())), row

    def part_do(self, tree, path, names):
        kind, row = self.part(tree[2], path + (0,), names)
        asked, given = self.deed(tree[1])
        self.same(kind, asked)
        self.same_rows(row, (Counter([tree[1]]), self.row()[1]))
        return given, row

    def part_answer(self, tree, path, names):
        kind, row = self.part(tree[1], path + (0,), names)
        own = self.row()
        self.same_rows(row, (Counter([answer[0] for answer in tree[3]]), own[1]))
        result, other = self.part(tree[2][1], path + (1,), {**names, tree[2][0]: lambda: kind})
        self.same_rows(other, own)
        for at, (deed, entry, rest, body) in enumerate(tree[3]):
            asked, given = self.deed(deed)
            told = {**names, entry: lambda asked=asked: asked, rest: lambda given=given: ("fun", given, own, result)}
            one, other = self.part(body, path + (at + 2,), told)
            self.same(one, result)
            self.same_rows(other, own)
        return result, own

    def plain(self, kind, row):
        opens, tails = {}, {}

        def one(kind):
            kind = self.seen(kind)
            if kind[0] == "var":
                return ("open", opens.setdefault(kind, len(opens)))
            if kind[0] == "fun":
                return ("fun", one(kind[1]), rows(kind[2]), one(kind[3]))
            if kind[0] == "sort":
                return ("sort", kind[1], tuple(one(part) for part in kind[2]))
            return kind

        def rows(row):
            deeds, tail = self.seen_row(row)
            return (tuple(sorted(deeds.elements())), None if tail is None else tails.setdefault(tail, len(tails)))
        return (one(kind), rows(row))


def plain_parts(tree):
    return {"num": (), "name": (), "call": tree[1:], "shape": tree[-1], "op": tree[2:], "do": tree[2:]}[tree[0]]


def names_of(pattern):
    if pattern[0] == "bind":
        return [pattern[1]]
    return [name for part in pattern[2] for name in names_of(part)] if pattern[0] == "shapeis" else []


def told_widest(book, program, lot=None):
    """The widest kinding, None if the program is not kinded at the lot."""
    model = KindModel(book, lot)
    try:
        kind, row = model.part(program, (), {})
        return model.plain(kind, row)
    except Clash:
        return None
