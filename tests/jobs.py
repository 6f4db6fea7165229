"""Programs made by chance that do the deeds of the library's answerers, for the most part with numbers alone."""

import random

from making import A, X
from nearanswer.texts import read_tree

DEEDS = {
    "state": ("get", "put"), "faults": ("fault",), "rows": ("hand",), "choices": ("pick", "fail"), "first": ("pick", "fail"),
    "turns": ("say", "turn"), "reading": ("next", "pick", "fail"), "anew": ("ask",),
}
# Their own names are those of the texts of the answerers.
NAMES = ("x", "s", "k", "v", "q", "join", "go", "next", "push", "l", "w", "it")


class JobMaker:

    def __init__(self, seed, deeds, names=NAMES, strange=0.06):
        self.chance = random.Random(seed)
        self.deeds = deeds
        self.names = names
        self.strange = strange

    def number(self):
        return ("num", self.chance.choice([0, 1, 2, 2, 3, -1]))

    def program(self, depth):
        return self.tree(depth, ())

    def tree(self, depth, scope):
        if depth == 0 or self.chance.random() < 0.08:
            return ("name", self.chance.choice(scope)) if scope and self.chance.random() < 0.7 else self.number()
        if self.chance.random() < self.strange:
            return self.strange_tree(depth, scope)
        kind = self.chance.randrange(9)
        one, two = self.tree(depth - 1, scope), self.tree(depth - 1, scope)
        name = self.chance.choice(self.names)
        if kind < 3:
            return ("do", self.chance.choice(self.deeds), one)
        if kind < 5:
            return ("let", name, one, self.tree(depth - 1, scope + (name,)))
        if kind == 5:
            return ("op", self.chance.choice("+-*"), one, two)
        if kind == 6:
            rows = ((("numis", self.chance.choice([0, 1])), two), (("bind", name), self.tree(depth - 1, scope + (name,))))
            return ("match", one, rows)
        if kind == 7:
            test = ("op", self.chance.choice("<="), one, self.number())
            return ("match", test, ((("shapeis", "Yes", ()), two), (("shapeis", "No", ()), self.tree(depth - 1, scope))))
        return ("call", ("fun", name, self.tree(depth - 1, scope + (name,))), one)

    def strange_tree(self, depth, scope):
        """What makes runs stuck or unanswered, for the most part, or answers a deed itself."""
        one = self.tree(depth - 1, scope)
        deed = self.chance.choice(self.deeds)
        return self.chance.choice([
            ("do", "other", one), ("call", one, one), ("match", one, ((("numis", 7), one),)), ("do", deed, ("shape", "No", ())), ("shape", "Two", (one, one)),
            ("do", deed, ("fun", "x", X)), ("op", "*", ("num", 10 ** 12), one), ("fun", "x", one), ("do", deed, ("shape", "Row", (one, ("shape", "End", ())))),
            ("answer", one, ("x", X), ((deed, "v", "k", ("call", ("name", "k"), ("num", 5))),)), ("answer", one, ("x", X), ((deed, "v", "k", ("op", "+", ("call", ("name", "k"), ("num", 1)), ("num", 1))),)),
        ])


def jobs(seed, kind, many, depth=4, strange=0.06):
    """Programs with the deeds of an answerer."""
    maker = JobMaker(seed, DEEDS[kind], NAMES, strange)
    return [maker.program(depth) for _ in range(many)]


def looping(deed):
    """A program that does a deed again and again, without an end."""
    return read_tree("rec f x = let y = do " + deed + " 1 in f y in f 1")


def plain_programs():
    return [read_tree(text) for text in (A, "1 + 2", "fun x -> x", "1 2", "do other 3", "Two(1, No())")]
