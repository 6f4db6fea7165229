"""A plain model of the language, without any rewriting: trees are worked out with tables of the values of names.

It tells the shown form of the end of a program, and how often each deed was answered. Its deeds come out as what is
left to be done, a function of the value that answers.
"""


class TooLong(Exception):
    pass


class Model:

    def __init__(self, fuel=3000):
        self.fuel = fuel
        self.deeds = []

    def end(self, program):
        told = self.work(program, {})
        if told[0] == "value":
            return ("value", shown(told[1]))
        if told[0] == "did":
            return ("unanswered", told[1], shown(told[2]))
        return told

    def then(self, told, behind):
        if told[0] == "value":
            return behind(told[1])
        if told[0] == "did":
            return ("did", told[1], told[2], lambda value: self.then(told[3](value), behind))
        return told

    def work(self, tree, names):
        self.fuel -= 1
        if self.fuel < 0:
            raise TooLong()
        return getattr(self, "work_" + tree[0])(tree, names)

    def work_num(self, tree, names):
        return ("value", tree[1])

    def work_name(self, tree, names):
        return ("value", names[tree[1]])

    def work_fun(self, tree, names):
        return ("value", lambda value: self.work(tree[2], {**names, tree[1]: value}))

    def work_call(self, tree, names):
        return self.then(self.work(tree[1], names), lambda one: self.then(
            self.work(tree[2], names), lambda two: one(two) if callable(one) else ("stuck", "call")))

    def work_let(self, tree, names):
        return self.then(self.work(tree[2], names), lambda one: self.work(tree[3], {**names, tree[1]: one}))

    def work_rec(self, tree, names):
        def own(value):
            return self.work(tree[3], {**names, tree[1]: own, tree[2]: value})
        return self.work(tree[4], {**names, tree[1]: own})

    def work_shape(self, tree, names):
        return self.parts(tree[2], names, (), lambda parts: ("value", (tree[1], parts)))

    def parts(self, trees, names, done, behind):
        if not trees:
            return behind(done)
        return self.then(self.work(trees[0], names), lambda value: self.parts(trees[1:], names, done + (value,), behind))

    def work_match(self, tree, names):
        def rows(value):
            for pattern, body in tree[2]:
                table = fits(pattern, value)
                if table is not None:
                    return self.work(body, {**names, **table})
            return ("stuck", "match")
        return self.then(self.work(tree[1], names), rows)

    def work_op(self, tree, names):
        def done(one, two):
            if not isinstance(one, int) or not isinstance(two, int):
                return ("stuck", "number")
            if tree[1] in "<=":
                return ("value", ("Yes" if (one < two if tree[1] == "<" else one == two) else "No", ()))
            number = {"+": one + two, "-": one - two, "*": one * two}[tree[1]]
            return ("stuck", "great") if abs(number) > 10 ** 12 else ("value", number)
        return self.then(self.work(tree[2], names), lambda one: self.then(
            self.work(tree[3], names), lambda two: done(one, two)))

    def work_do(self, tree, names):
        return self.then(self.work(tree[2], names), lambda one: ("did", tree[1], one, lambda value: ("value", value)))

    def work_answer(self, tree, names):
        return self.answered(self.work(tree[1], names), tree, names)

    def answered(self, told, tree, names):
        self.fuel -= 1
        if self.fuel < 0:
            raise TooLong()
        if told[0] == "value":
            return self.work(tree[2][1], {**names, tree[2][0]: told[1]})
        if told[0] != "did":
            return told
        for deed, entry, rest, body in tree[3]:
            if deed == told[1]:
                self.deeds.append((deed, shown(told[2])))
                again = lambda value: self.answered(told[3](value), tree, names)
                return self.work(body, {**names, entry: told[2], rest: again})
        return ("did", told[1], told[2], lambda value: self.answered(told[3](value), tree, names))


def shown(value):
    if isinstance(value, tuple):
        return (value[0], tuple(shown(part) for part in value[1]))
    return "fun" if callable(value) else value


def fits(pattern, value):
    if pattern[0] == "any":
        return {}
    if pattern[0] == "bind":
        return {pattern[1]: value}
    if pattern[0] == "numis":
        return {} if isinstance(value, int) and value == pattern[1] else None
    if not isinstance(value, tuple) or value[0] != pattern[1] or len(value[1]) != len(pattern[2]):
        return None
    table = {}
    for part, inner in zip(pattern[2], value[1]):
        more = fits(part, inner)
        if more is None:
            return None
        table.update(more)
    return table
