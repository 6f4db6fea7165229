"""Programs made by chance many of whose answers go on last, and a second telling of how bodies use their rests."""

from making import ANY, Maker
from nearanswer.bindings import scopes
from nearanswer.treeforms import part_by as part_at
from nearanswer.treeforms import paths_in as all_paths


class LastMaker(Maker):
    """Makes programs; `share` tells how many of their rows are made to go on last."""

    def __init__(self, seed, share=1.0, deeds=("ask", "pick")):
        super().__init__(seed, deeds)
        self.share = share

    def tree(self, depth, scope=None):
        if depth == 0 or self.chance.random() < 0.1:
            if scope and self.chance.random() < 0.6:
                return ("name", self.chance.choice(scope))
            return ("num", self.chance.randrange(3))
        word = self.chance.choice(["call", "let", "let", "shape", "match", "op", "do", "do", "do", "answer", "answer", "fun", "rec"])
        return getattr(self, "tree_" + word)(depth - 1, scope)

    def tree_call(self, depth, scope):
        """Often a call of a function."""
        if self.chance.random() < 0.5:
            name = self.name()
            return ("call", ("fun", name, self.tree(depth, self.inner(scope, name))), self.tree(depth, scope))
        return super().tree_call(depth, scope)

    def tree_op(self, depth, scope):
        return ("op", self.chance.choice("+-*"), self.tree(depth, scope), self.tree(depth, scope))

    def tree_match(self, depth, scope):
        _, one, rows = super().tree_match(depth, scope)
        return ("match", one, rows[:5] + ((ANY, self.tree(depth, scope)),))

    def tree_answer(self, depth, scope):
        name = self.name()
        pair = (name, self.tree(depth, self.inner(scope, name)))
        rows = []
        for deed in self.chance.sample(self.deeds, self.chance.randrange(1, len(self.deeds) + 1)):
            entry, rest = self.chance.sample(self.names, 2)
            inner = self.inner(scope, entry, rest)
            if self.chance.random() < self.share:
                rows.append((deed, entry, rest, self.last(depth, inner, rest)))
            else:
                rows.append((deed, entry, rest, self.tree(depth, inner)))
        return ("answer", self.tree(depth, scope), pair, tuple(rows))

    def last(self, depth, scope, rest):
        """A body that uses its rest last."""
        roll = self.chance.random()
        scope = tuple(name for name in scope if name != rest)
        others = [name for name in self.names if name != rest]
        if depth == 0 or roll < 0.5:
            return ("call", ("name", rest), self.tree(depth, scope))
        if roll < 0.75:
            name = self.chance.choice(others)
            return ("let", name, self.tree(depth - 1, scope), self.last(depth - 1, scope + (name,), rest))
        if roll < 0.85:
            name, entry = self.chance.sample(others, 2)
            return ("rec", name, entry, self.tree(depth - 1, scope + (name, entry)), self.last(depth - 1, scope + (name,), rest))
        rows = [(("numis", self.chance.randrange(3)), self.last(depth - 1, scope, rest)), (ANY, self.last(depth - 1, scope, rest))]
        return ("match", self.tree(depth - 1, scope), tuple(rows))


def last_programs(seed, many, depth=5, share=1.0, deeds=("ask", "pick")):
    maker = LastMaker(seed, share, deeds)
    return [maker.tree(depth, ()) for _ in range(many)]


def uses_by_hand(tree, name):
    """All paths that lead to the name, but those at which it is bound on the way."""
    found = []
    for path in all_paths(tree):
        if part_at(tree, path) == ("name", name):
            on_way = [scopes(part_at(tree, path[:at]))[path[at]][1] for at in range(len(path))]
            if not any(name in bound for bound in on_way):
                found.append(path)
    return found


def ends_by_hand(tree):
    """All paths that go through bodies of lets, recs and rows alone, up to what is none of these."""
    found = []
    for path in all_paths(tree):
        words = [part_at(tree, path[:at])[0] for at in range(len(path))]
        if all(word in ("let", "rec", "match") and at > 0 for word, at in zip(words, path)) and part_at(tree, path)[0] not in ("let", "rec", "match"):
            found.append(path)
    return found


def held_by_hand(tree, use):
    """Whether one of the trees around a use is a function or an answerer, or the made of a rec on its way."""
    around = [part_at(tree, use[:at]) for at in range(len(use))]
    return any(one[0] in ("fun", "answer") or one[0] == "rec" and use[at] == 0 for at, one in enumerate(around))


def apart_by_hand(tree, use, other):
    common = [path for path in all_paths(tree) if path == use[:len(path)] and path == other[:len(path)]]
    deepest = max(common, key=len)
    return part_at(tree, deepest)[0] == "match" and use[len(deepest)] > 0 and other[len(deepest)] > 0


def word_by_hand(tree, rest):
    uses = uses_by_hand(tree, rest)
    if not uses:
        return "never"
    calls = []
    for end in ends_by_hand(tree):
        if part_at(tree, end)[0] == "call":
            calls.append(end + (0,))
    if len(calls) == len(ends_by_hand(tree)) and sorted(calls) == uses:
        return "last"
    pairs = [(use, other) for use in uses for other in uses if use < other]
    if not any(held_by_hand(tree, use) for use in uses) and all(apart_by_hand(tree, *pair) for pair in pairs):
        return "once"
    return "many"


def is_paper_by_hand(tree, rest, value):
    word = word_by_hand(tree, rest)
    uses = uses_by_hand(tree, rest)
    if word != "many":
        return value == (word, tuple(uses))
    papers = [(use,) for use in uses if held_by_hand(tree, use)]
    papers += [(use, other) for use in uses for other in uses if use < other and not apart_by_hand(tree, use, other)]
    return value in [("many", paths) for paths in papers]
