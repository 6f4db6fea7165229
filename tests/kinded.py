"""Programs that have a kind, made by chance from what kinds ask for, and a book for them."""

import random

N = ("num",)
TRUTH = ("sort", "truth", ())
BOOK = ((("opt", 1, (("Nil", ()), ("One", (("open", 0),)))),
         ("pair", 2, (("Two", (("open", 0), ("open", 1))),))),
        (("ask", N, N), ("pick", N, TRUTH), ("stop", N, ("sort", "opt", (N,)))))
OPT = ("sort", "opt", (N,))
PAIR = ("sort", "pair", (N, OPT))
ASKED = {"ask": (N, N), "pick": (N, TRUTH), "stop": (N, OPT)}


def fun(entry, result):
    return ("fun", entry, ((), None), result)


class KindMaker:
    """Makes programs of a kind; the deeds that may be done are told apart for bodies of functions."""

    def __init__(self, seed):
        self.chance = random.Random(seed)
        self.used = 0

    def new(self):
        self.used += 1
        return "v" + "abcdefghijklmnopqrstuvwxyz"[self.used % 26] + "abcdefghijklmnopqrstuvwxyz"[self.used // 26 % 26]

    def program(self, depth=5, deeds=("ask",)):
        self.used = 0
        return self.make(self.chance.choice([N, N, OPT, PAIR]), depth, {}, list(deeds))

    def make(self, kind, depth, scope, deeds):
        names = [name for name, told in scope.items() if told == kind]
        if names and self.chance.random() < 0.3:
            return ("name", self.chance.choice(names))
        if depth == 0:
            return self.least(kind, scope)
        way = self.chance.choice(["own", "own", "call", "let", "rec", "match", "do", "answer", "use"])
        return getattr(self, "by_" + way)(kind, depth - 1, scope, deeds)

    def least(self, kind, scope):
        names = [name for name, told in scope.items() if told == kind]
        if names:
            return ("name", names[-1])
        if kind == N:
            return ("num", self.chance.randrange(-3, 9))
        if kind == TRUTH:
            return ("shape", self.chance.choice(["Yes", "No"]), ())
        if kind[0] == "fun":
            name = self.new()
            return ("fun", name, self.least(kind[3], {**scope, name: kind[1]}))
        if kind[1] == "opt":
            return ("shape", "Nil", ())
        return ("shape", "Two", tuple(self.least(part, scope) for part in kind[2]))

    def by_own(self, kind, depth, scope, deeds):
        if kind == N:
            return ("op", self.chance.choice("+-*"), self.make(N, depth, scope, deeds), self.make(N, depth, scope, deeds))
        if kind == TRUTH:
            return ("op", self.chance.choice("<="), self.make(N, depth, scope, deeds), self.make(N, depth, scope, deeds))
        if kind[0] == "fun":
            name = self.new()
            return ("fun", name, self.make(kind[3], depth, {**scope, name: kind[1]}, []))
        if kind[1] == "opt":
            return ("shape", "One", (self.make(kind[2][0], depth, scope, deeds),))
        return ("shape", "Two", tuple(self.make(part, depth, scope, deeds) for part in kind[2]))

    def some(self):
        return self.chance.choice([N, N, OPT, TRUTH, fun(N, N)])

    def by_call(self, kind, depth, scope, deeds):
        entry = self.some()
        return ("call", self.make(fun(entry, kind), depth, scope, deeds), self.make(entry, depth, scope, deeds))

    def by_use(self, kind, depth, scope, deeds):
        """A call of a name that is a function, if there is one."""
        names = [name for name, told in scope.items() if told[0] == "fun" and told[3] == kind]
        if not names:
            return self.by_own(kind, depth, scope, deeds)
        name = self.chance.choice(names)
        return ("call", ("name", name), self.make(scope[name][1], depth, scope, deeds))

    def by_let(self, kind, depth, scope, deeds):
        name, some = self.new(), self.some()
        return ("let", name, self.make(some, depth, scope, deeds), self.make(kind, depth, {**scope, name: some}, deeds))

    def by_rec(self, kind, depth, scope, deeds):
        """A function that counts down, or one that does not call itself."""
        own, entry, some = self.new(), self.new(), self.some()
        inner = {**scope, entry: N}
        again = ("call", ("name", own), ("op", "-", ("name", entry), ("num", 1)))
        rest = self.new()
        last = ("let", rest, again, self.make(some, depth, {**inner, rest: some}, []))
        rows = ((("shapeis", "Yes", ()), self.make(some, depth, inner, [])), (("any",), last))
        made = ("match", ("op", "<", ("name", entry), ("num", 1)), rows)
        return ("rec", own, entry, made, self.make(kind, depth, {**scope, own: fun(N, some)}, deeds))

    def by_match(self, kind, depth, scope, deeds):
        name, other = self.new(), self.new()
        some = self.chance.choice([N, TRUTH, OPT, PAIR])
        one = self.make(some, depth, scope, deeds)
        if some == N:
            rows = [(("numis", self.chance.randrange(3)), {}), (("bind", name), {name: N})]
        elif some == TRUTH:
            rows = [(("shapeis", "Yes", ()), {}), (("shapeis", "No", ()), {})]
        elif some == OPT:
            rows = [(("shapeis", "One", (("bind", name),)), {name: N}), (("any",), {})]
        else:
            rows = [(("shapeis", "Two", (("bind", name), ("bind", other))), {name: N, other: OPT})]
        return ("match", one, tuple((pattern, self.make(kind, depth, {**scope, **more}, deeds)) for pattern, more in rows))

    def by_do(self, kind, depth, scope, deeds):
        fit = [deed for deed in deeds if ASKED[deed][1] == kind]
        if not fit:
            return self.by_own(kind, depth, scope, deeds)
        deed = self.chance.choice(fit)
        return ("do", deed, self.make(ASKED[deed][0], depth, scope, deeds))

    def by_answer(self, kind, depth, scope, deeds):
        some, name = self.some(), self.new()
        own = self.chance.sample(sorted(ASKED), self.chance.randrange(1, 3))
        one = self.make(some, depth, scope, sorted(set(deeds) | set(own)))
        pair = (name, self.make(kind, depth, {**scope, name: some}, deeds))
        rows = []
        for deed in own:
            entry, rest = self.new(), self.new()
            inner = {**scope, entry: ASKED[deed][0], rest: fun(ASKED[deed][1], kind)}
            rows.append((deed, entry, rest, self.make(kind, depth, inner, deeds)))
        return ("answer", one, pair, tuple(rows))


def kinded_programs(seed, many, depth=5):
    maker = KindMaker(seed)
    return [maker.program(depth) for _ in range(many)]


class LetMaker:
    """Makes programs with many lets, recs and functions, few of which have a kind that is hard to tell."""

    def __init__(self, seed):
        self.chance = random.Random(seed)
        self.used = 0

    def new(self):
        self.used += 1
        return "abcdefghijklmnopqrstuvwxyz"[self.used % 26] + "z"

    def make(self, depth, scope):
        roll = self.chance.random()
        if scope and (depth == 0 or roll < 0.2):
            return ("name", self.chance.choice(scope))
        if depth == 0:
            return self.chance.choice([("num", 1), ("shape", "Nil", ())])
        inner = depth - 1
        if roll < 0.55:
            name = self.new()
            one = self.make(inner, scope)
            if self.chance.random() < 0.5:
                one = self.function(inner, scope)
            return ("let", name, one, self.make(inner, scope + [name]))
        if roll < 0.62:
            own, entry = self.new(), self.new()
            return ("rec", own, entry, self.make(inner, scope + [own, entry]), self.make(inner, scope + [own]))
        if roll < 0.7:
            return self.function(inner, scope)
        if roll < 0.82:
            return ("call", self.make(inner, scope), self.make(inner, scope))
        if roll < 0.86:
            return ("do", "ask", self.make(inner, scope))
        if roll < 0.9:
            name = self.new()
            pattern = self.chance.choice([("shapeis", "One", (("bind", name),)), ("bind", name)])
            return ("match", self.make(inner, scope), ((pattern, self.make(inner, scope + [name])),))
        if roll < 0.95:
            return ("shape", "Two", (self.make(inner, scope), self.make(inner, scope)))
        return ("shape", "One", (self.make(inner, scope),))

    def function(self, depth, scope):
        name = self.new()
        return ("fun", name, self.make(depth, scope + [name]))


def let_programs(seed, many, depth=5):
    maker = LetMaker(seed)
    return [maker.make(depth, []) for _ in range(many)]
