"""The rules of the parts of programs, by which kinds and rows are told to them."""

from nearanswer.bindings import plain, scopes
from nearanswer.kindforms import deeds_told, tags_told
from nearanswer.kindings import put_into
from nearanswer.kindstore import KindStore

ANY = ("any",)


def is_still(tree):
    """Whether a tree is a name, a number, a function, or a shape of still ones."""
    waiting = [tree]
    while waiting:
        one = waiting.pop()
        if one[0] == "shape":
            waiting.extend(one[2])
        elif one[0] not in ("name", "num", "fun"):
            return False
    return True


def with_told(names, more):
    """The table of what is told of names, with more of them told."""
    table = {name: names[name] for name in names}
    for name in more:
        table[name] = more[name]
    return table


def kinded_program(book, program, lot):
    """The pair of the store and of the kind and row of a program, kinded at the paths of a lot, all if it is None."""
    rules = KindRules(book, lot)
    kind, row = rules.kinded(plain(program), (), {})
    return (rules.store, kind, row)


class KindRules:
    """Tells kinds and rows to parts of a program with plain names, so that the rules of a lot of paths are kept.

    Of each name the table tells ("one", kind), one kind for all places; ("many", scheme), another one that comes of
    the scheme at each place; or ("any",), whatever a place asks for.
    """

    def __init__(self, book, lot):
        self.store = KindStore()
        self.tags = tags_told(book)
        self.deed_kinds = deeds_told(book)
        self.lot = lot

    def kinded(self, tree, path, names):
        """The kind and the row of a part, the rules of the lot in it being kept."""
        word = tree[0]
        if self.lot is not None and path not in self.lot:
            return self.unruled(tree, path, names)
        if word == "name":
            return (self.kind_of_name(names[tree[1]]), self.store.fresh_row())
        if word == "num":
            return (self.number(), self.store.fresh_row())
        if word == "fun":
            return self.kinded_fun(tree, path, names)
        if word == "let":
            return self.kinded_let(tree, path, names)
        if word == "rec":
            return self.kinded_rec(tree, path, names)
        if word == "match":
            return self.kinded_match(tree, path, names)
        if word == "answer":
            return self.kinded_answer(tree, path, names)
        return self.kinded_plainly(tree, path, names)

    def unruled(self, tree, path, names):
        """Without its rule, a part has any kind and row, and so have the names that it binds at each place."""
        for index, scope in enumerate(scopes(tree)):
            _, bound, part = scope
            self.kinded(part, path + (index,), with_told(names, {name: ANY for name in bound}))
        return (self.store.fresh(), self.store.fresh_row())

    def number(self):
        return self.store.made(("num",))

    def fails(self):
        """What is told where no kind keeps the rule."""
        self.store.clash = True
        return self.store.fresh()

    def kind_of_name(self, told):
        if told[0] == "one":
            return told[1]
        if told[0] == "many":
            return self.store.copied(told[1])
        return self.store.fresh()

    def scheme_of(self, kind, names):
        """What is told of a name that can have another kind at each place."""
        held = [told[1] for told in names.values() if told[0] == "one"]
        return ("many", self.store.scheme(kind, held))

    def kinded_fun(self, tree, path, names):
        entry = self.store.fresh()
        kind, row = self.kinded(tree[2], path + (0,), with_told(names, {tree[1]: ("one", entry)}))
        return (self.store.made(("fun", entry, row, kind)), self.store.fresh_row())

    def kinded_let(self, tree, path, names):
        kind, row = self.kinded(tree[2], path + (0,), names)
        told = ("one", kind)
        if is_still(tree[2]):
            told = self.scheme_of(kind, names)
        body, body_row = self.kinded(tree[3], path + (1,), with_told(names, {tree[1]: told}))
        if not is_still(tree[2]):
            self.store.unite_rows(row, body_row)
        return (body, body_row)

    def kinded_rec(self, tree, path, names):
        entry = self.store.fresh()
        result = self.store.fresh()
        row = self.store.fresh_row()
        own = self.store.made(("fun", entry, row, result))
        inner = with_told(names, {tree[1]: ("one", own), tree[2]: ("one", entry)})
        made, made_row = self.kinded(tree[3], path + (0,), inner)
        self.store.unite(made, result)
        self.store.unite_rows(made_row, row)
        return self.kinded(tree[4], path + (1,), with_told(names, {tree[1]: self.scheme_of(own, names)}))

    def kinded_match(self, tree, path, names):
        kind, row = self.kinded(tree[1], path + (0,), names)
        result = self.store.fresh()
        for index, pair in enumerate(tree[2]):
            bound = {}
            self.store.unite(kind, self.kind_of_pattern(pair[0], bound))
            body, body_row = self.kinded(pair[1], path + (index + 1,), with_told(names, bound))
            self.store.unite(body, result)
            self.store.unite_rows(body_row, row)
        return (result, row)

    def kind_of_pattern(self, pattern, bound):
        """The kind that a pattern has; the table of the names that it binds grows."""
        if pattern[0] == "numis":
            return self.number()
        if pattern[0] == "shapeis":
            parts = []
            for inner in pattern[2]:
                parts.append(self.kind_of_pattern(inner, bound))
            return self.kind_of_shape(pattern[1], parts)
        kind = self.store.fresh()
        if pattern[0] == "bind":
            bound[pattern[1]] = ("one", kind)
        return kind

    def kind_of_shape(self, tag, parts):
        """The kind of a shape with a tag, and with parts of these kinds."""
        if tag not in self.tags or len(self.tags[tag][2]) != len(parts):
            return self.fails()
        sort, many, kinds = self.tags[tag]
        opens = {index: self.store.fresh() for index in range(many)}
        for kind, part in zip(kinds, parts):
            self.store.unite(part, put_into(self.store, kind, opens, {}))
        return self.store.made(("sort", sort, tuple([opens[index] for index in range(many)])))

    def kinded_answer(self, tree, path, names):
        """The one has the row of the answerer, and each deed of its rows once more."""
        kind, row = self.kinded(tree[1], path + (0,), names)
        tail = self.store.fresh_tail()
        self.store.unite_rows(row, ({answer[0]: 1 for answer in tree[3]}, tail))
        result, own_row = self.kinded(tree[2][1], path + (1,), with_told(names, {tree[2][0]: ("one", kind)}))
        self.store.unite_rows(own_row, ({}, tail))
        for index, answer in enumerate(tree[3]):
            deed, entry, rest, body = answer
            asked, given = self.kinds_of_deed(deed)
            again = self.store.made(("fun", given, ({}, tail), result))
            told = with_told(names, {entry: ("one", asked), rest: ("one", again)})
            body_kind, body_row = self.kinded(body, path + (index + 2,), told)
            self.store.unite(body_kind, result)
            self.store.unite_rows(body_row, ({}, tail))
        return (result, ({}, tail))

    def kinds_of_deed(self, deed):
        if deed not in self.deed_kinds:
            return (self.fails(), self.fails())
        asked, given = self.deed_kinds[deed]
        return (put_into(self.store, asked, {}, {}), put_into(self.store, given, {}, {}))

    def kinded_plainly(self, tree, path, names):
        """The kind and the row of a part that binds no names: its parts all have its row."""
        row = self.store.fresh_row()
        kinds = []
        for index, scope in enumerate(scopes(tree)):
            kind, part_row = self.kinded(scope[2], path + (index,), names)
            self.store.unite_rows(part_row, row)
            kinds.append(kind)
        if tree[0] == "shape":
            return (self.kind_of_shape(tree[1], kinds), row)
        if tree[0] == "call":
            return (self.kind_of_call(kinds[0], kinds[1], row), row)
        if tree[0] == "op":
            return (self.kind_of_op(tree[1], kinds), row)
        asked, given = self.kinds_of_deed(tree[1])
        self.store.unite(kinds[0], asked)
        self.store.unite_rows(row, ({tree[1]: 1}, self.store.fresh_tail()))
        return (given, row)

    def kind_of_call(self, one, two, row):
        result = self.store.fresh()
        self.store.unite(one, self.store.made(("fun", two, row, result)))
        return result

    def kind_of_op(self, sign, kinds):
        for kind in kinds:
            self.store.unite(kind, self.number())
        if sign in ("<", "="):
            return self.kind_of_shape("Yes", [])
        return self.number()
