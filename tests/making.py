"""Trees, programs and wrong values that the tests share. All that is made by chance is made by a seed."""

import random

A = "answer do ask 1 + 2 {plain x -> x; ask x k -> k (x + 10)}"
B = "answer do pick 0 {plain x -> x; pick x k -> k 1 + k 2}"
C = "rec f x = match x {0 -> 0; _ -> x + f (x - 1)} in f 3"

NUM = ("num", 1)
X = ("name", "x")
ANY = ("any",)
BARRED = ("fun", "let", "in", "rec", "match", "do", "answer", "plain")

# What is no tree, whatever is asked for.
NO_TREES = [
    None, True, 0, "x", "num", (), [], ("num",), ("num", True), ("num", "1"), ("num", 1, 2), ["num", 1], ("num", None),
    ("num", 10 ** 12 + 1), ("num", -10 ** 12 - 1), ("name", "X"), ("name", ""), ("name", "abcdefghi"), ("name", "x", "y"),
    ("name", 1), ("name", "a1"), ("name", "x "), ("fun", "x"), ("fun", "x", X, X), ("fun", 1, X), ("fun", "x", ("num",)),
    ("call", X), ("call", X, X, X), ("call", X, None), ("let", "x", X), ("let", "let", X, X), ("let", "x", X, ()),
    ("rec", "f", "f", X, X), ("rec", "f", "x", X), ("rec", "f", "x", X, 1), ("rec", "f", "in", X, X),
    ("shape", "two", ()), ("shape", "Two", []), ("shape", "Two"), ("shape", "Two", (X,) * 5), ("shape", "Two", (X, 1)),
    ("shape", "TWo", ()), ("shape", "T2", ()), ("shape", "Abcdefghi", ()), ("match", X, ()), ("match", X, [(ANY, X)]),
    ("match", X, ((ANY, X),) * 7), ("match", X, ((ANY,),)), ("match", X, ((ANY, X, X),)), ("match", X, (([], X),)), ("match", X, ([ANY, X],)),
    ("match", X, ((("bind", "do"), X),)), ("match", X, ((("numis", True), X),)), ("match", X, ((("numis", 10 ** 13), X),)),
    ("match", X, ((("shapeis", "Two", (("bind", "x"), ("bind", "x"))), X),)), ("match", X, ((("any", 1), X),)),
    ("op", "/", X, X), ("op", "+", X), ("op", "+", X, X, X), ("op", ["+"], X, X), ("op", "", X, X), ("do", "Ask", X),
    ("do", "ask"), ("do", "plain", X), ("answer", X, ("x", X)), ("answer", X, ("x",), ()), ("answer", X, ["x", X], ()),
    ("answer", X, ("x", X), []), ("answer", X, ("x", X), (("ask", "x", "x", X),)), ("answer", X, ("x", X), (("ask", "x", X),)),
    ("answer", X, ("x", X), (("ask", "x", "k", X), ("ask", "y", "l", X))), ("answer", X, ("x", 1), ()),
    ("answer", X, ("x", X), tuple((d, "x", "k", X) for d in "abcdefg")), ("other", X), (1, 2), ((),),
]

# What is a tree, but no program.
NO_PROGRAMS = [X, ("fun", "y", X), ("let", "x", X, NUM), ("rec", "f", "x", NUM, X), ("call", ("fun", "x", X), X),
               ("answer", NUM, ("y", NUM), (("ask", "e", "k", X),)), ("match", NUM, ((("bind", "y"), X),))]

NO_NAMES = [None, 1, True, "", "X", "abcdefghi", "a b", "a1", ("x",), ["x"], "_", "x\n"] + list(BARRED)


def nested(depth, inner=NUM):
    """A function in a function, and so on, of a depth more than that of the inner tree."""
    tree = inner
    for _ in range(depth):
        tree = ("fun", "x", tree)
    return tree


def size_of(tree):
    """The size, told in another way than the package does: by the words that begin trees and patterns."""
    words = ("num", "name", "fun", "call", "let", "rec", "shape", "match", "op", "do", "answer", "any", "bind", "numis",
             "shapeis")
    if not isinstance(tree, tuple):
        return 0
    own = 1 if tree and isinstance(tree[0], str) and tree[0] in words and is_node(tree) else 0
    return own + sum(size_of(part) for part in tree)


def is_node(value):
    lengths = {"num": 2, "name": 2, "fun": 3, "call": 3, "let": 4, "rec": 5, "shape": 3, "match": 3, "op": 4, "do": 3,
               "answer": 4, "any": 1, "bind": 2, "numis": 2, "shapeis": 3}
    return len(value) == lengths[value[0]]


def sized(size):
    """A tree of just this size, wide rather than deep."""
    if size == 1:
        return NUM
    if size <= 5:
        return ("shape", "Row", tuple([NUM] * (size - 1)))
    share, more = divmod(size - 1, 4)
    return ("shape", "Row", tuple(sized(share + (1 if at < more else 0)) for at in range(4)))


class Maker:
    """Makes trees by chance."""

    def __init__(self, seed, deeds=("ask", "pick"), names=("x", "y", "k", "f")):
        self.chance = random.Random(seed)
        self.deeds = deeds
        self.names = names

    def name(self):
        return self.chance.choice(self.names)

    def number(self):
        return self.chance.choice([0, 1, 2, 3, -1, 7, 10 ** 12, -10 ** 12])

    def pattern(self, depth=2):
        """A pattern in which no name stands twice."""
        names = list(self.names)
        self.chance.shuffle(names)
        return self.pattern_of(depth, names)

    def pattern_of(self, depth, names):
        kind = self.chance.randrange(4 if depth > 0 else 3)
        if kind == 0 and names:
            return ("bind", names.pop())
        if kind == 1:
            return ("numis", self.chance.choice([0, 1, 2, -1]))
        if kind == 3:
            many = self.chance.randrange(3)
            return ("shapeis", self.tag(many), tuple(self.pattern_of(depth - 1, names) for _ in range(many)))
        return ANY

    def tag(self, many):
        return self.chance.choice([("No", "Yes", "End"), ("One", "Good"), ("Two", "Row")][many])

    def tree(self, depth, scope=None):
        """A tree; its free names are those of the scope, any names if this is None."""
        names = self.names if scope is None else scope
        if depth == 0 or self.chance.random() < 0.1:
            if names and self.chance.random() < 0.6:
                return ("name", self.chance.choice(names))
            return ("num", self.number())
        word = self.chance.choice(["fun", "call", "let", "rec", "shape", "match", "op", "do", "answer", "call", "op"])
        return getattr(self, "tree_" + word)(depth - 1, scope)

    def inner(self, scope, *names):
        return None if scope is None else tuple(scope) + names

    def tree_fun(self, depth, scope):
        name = self.name()
        return ("fun", name, self.tree(depth, self.inner(scope, name)))

    def tree_call(self, depth, scope):
        return ("call", self.tree(depth, scope), self.tree(depth, scope))

    def tree_let(self, depth, scope):
        name = self.name()
        return ("let", name, self.tree(depth, scope), self.tree(depth, self.inner(scope, name)))

    def tree_rec(self, depth, scope):
        name, entry = self.chance.sample(self.names, 2)
        made = self.tree(depth, self.inner(scope, name, entry))
        return ("rec", name, entry, made, self.tree(depth, self.inner(scope, name)))

    def tree_shape(self, depth, scope):
        many = self.chance.randrange(3)
        return ("shape", self.tag(many), tuple(self.tree(depth, scope) for _ in range(many)))

    def tree_match(self, depth, scope):
        one = self.tree(depth, scope)
        rows = []
        for _ in range(self.chance.randrange(1, 4)):
            pattern = self.pattern()
            rows.append((pattern, self.tree(depth, self.inner(scope, *names_of(pattern)))))
        return ("match", one, tuple(rows))

    def tree_op(self, depth, scope):
        return ("op", self.chance.choice("+-*<="), self.tree(depth, scope), self.tree(depth, scope))

    def tree_do(self, depth, scope):
        return ("do", self.chance.choice(self.deeds), self.tree(depth, scope))

    def tree_answer(self, depth, scope):
        name = self.name()
        pair = (name, self.tree(depth, self.inner(scope, name)))
        rows = []
        for deed in self.chance.sample(self.deeds, self.chance.randrange(len(self.deeds) + 1)):
            entry, rest = self.chance.sample(self.names, 2)
            rows.append((deed, entry, rest, self.tree(depth, self.inner(scope, entry, rest))))
        return ("answer", self.tree(depth, scope), pair, tuple(rows))


def names_of(pattern):
    if pattern[0] == "bind":
        return (pattern[1],)
    if pattern[0] == "shapeis":
        return tuple(name for part in pattern[2] for name in names_of(part))
    return ()


def programs(seed, many, depth=4):
    maker = Maker(seed)
    return [maker.tree(depth, ()) for _ in range(many)]


def trees(seed, many, depth=4):
    maker = Maker(seed)
    return [maker.tree(depth) for _ in range(many)]


def error_of(action, *arguments):
    """The error that a call raises, as its class and its own attributes; None if it raises none."""
    from nearanswer.errors import NearError
    try:
        action(*arguments)
    except NearError as error:
        return (type(error), vars(error))
    return None


def checked(test, error, action, *arguments):
    """A call raises just this error, an attribute of which may be told behind the class."""
    told = error_of(action, *arguments)
    test.assertIsNotNone(told, (action.__name__, arguments))
    if isinstance(error, tuple):
        test.assertEqual(told, error, (action.__name__, arguments))
    else:
        test.assertIs(told[0], error, (action.__name__, arguments))
