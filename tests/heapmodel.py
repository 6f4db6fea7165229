"""Runs in a heap once more, row by row as the document tells them: cells are laid at once, one after another."""


class Full(Exception):
    pass


class HeapModel:

    def __init__(self, program, most=1000):
        self.doing = ("go", program, None)
        self.top = None
        self.heap = []
        self.most = most

    def make(self, label, *words):
        """A new cell at the least free place, or behind all."""
        for at, cell in enumerate(self.heap):
            if cell is None:
                break
        else:
            at = len(self.heap)
            if at == self.most:
                raise Full()
            self.heap.append(None)
        self.heap[at] = (label, words)
        return at

    def standing(self):
        return self.doing, self.top, tuple(self.heap)

    def step(self):
        before = self.standing()
        try:
            return self.go(*self.doing[1:]) if self.doing[0] == "go" else self.give(self.doing[1])
        except Full:
            self.doing, self.top = before[:2]
            self.heap = list(before[2])
            raise

    def go(self, tree, names):
        kind = tree[0]
        if kind == "num":
            self.doing = ("give", tree)
        elif kind == "name":
            while self.heap[names][0] != ("bind", tree[1]):
                names = self.heap[names][1][1]
            self.doing = ("give", self.heap[names][1][0])
        elif kind == "fun":
            self.doing = ("give", self.make(("fun", tree[1], tree[2]), names))
        elif kind == "shape" and not tree[2]:
            self.doing = ("give", self.make(("shape", tree[1])))
        elif kind == "rec":
            first = self.make(("bind", tree[1]), None, names)
            second = self.make(("again",) + tree[1:4], first)
            self.heap[first] = (("bind", tree[1]), (second, names))
            self.doing = ("go", tree[4], first)
            return "rec"
        else:
            forms = {"call": ("left",) + tree[2:], "op": ("first", tree[1]) + tree[3:], "let": ("let", tree[1]) + tree[3:], "match": ("match",) + tree[2:],
                     "answer": ("answer",) + tree[2:]}
            one = tree[2] if kind in ("op", "let", "do") else tree[1]
            if kind == "shape":
                one = tree[2][0]
                self.top = self.make(("parts", tree[1], tree[2][1:]), names, self.top)
            elif kind == "do":
                self.top = self.make(("do", tree[1]), self.top)
            else:
                self.top = self.make(forms[kind], names, self.top)
            self.doing = ("go", one, names)
        return "look"

    def bind(self, names, *pairs):
        for name, value in pairs:
            names = self.make(("bind", name), value, names)
        return names

    def give(self, value):
        if self.top is None:
            return None
        label, words = self.heap[self.top]
        return getattr(self, "give_" + label[0])(label, words, value)

    def give_left(self, label, words, value):
        self.top = self.make(("right",), value, words[1])
        self.doing = ("go", label[1], words[0])
        return "look"

    def give_first(self, label, words, value):
        self.top = self.make(("second", label[1]), value, words[1])
        self.doing = ("go", label[2], words[0])
        return "look"

    def give_parts(self, label, words, value):
        names, behind, *values = words
        if label[2]:
            self.top = self.make(("parts", label[1], label[2][1:]), names, behind, *values, value)
            self.doing = ("go", label[2][0], names)
        else:
            self.doing = ("give", self.make(("shape", label[1]), *values, value))
            self.top = behind
        return "look"

    def give_right(self, label, words, value):
        one, behind = words
        if not isinstance(one, int) or self.heap[one][0][0] not in ("fun", "again", "rest"):
            return None
        told, inner = self.heap[one]
        if told[0] == "rest":
            self.top = self.copied(inner[0], None, behind)
            self.doing = ("give", value)
            return "call"
        self.doing = ("go", told[-1], self.bind(inner[0], (told[-2], value)))
        self.top = behind
        return "call" if told[0] == "fun" else "again"

    def copied(self, top, last, behind):
        """The top of copies of the frames from one on to a last one, or to one without a next frame."""
        label, words = self.heap[top]
        at = 0 if label[0] == "do" else 1
        if top != last and words[at] is not None:
            behind = self.copied(words[at], last, behind)
        return self.make(label, *words[:at], behind, *words[at + 1:])

    def give_let(self, label, words, value):
        self.doing = ("go", label[2], self.bind(words[0], (label[1], value)))
        self.top = words[1]
        return "let"

    def give_answer(self, label, words, value):
        self.doing = ("go", label[1][1], self.bind(words[0], (label[1][0], value)))
        self.top = words[1]
        return "plain"

    def give_match(self, label, words, value):
        for pattern, body in label[1]:
            pairs = self.fit(pattern, value)
            if pairs is not None:
                self.doing = ("go", body, self.bind(words[0], *pairs))
                self.top = words[1]
                return "match"
        return None

    def fit(self, pattern, value):
        if pattern[0] == "any":
            return []
        if pattern[0] == "bind":
            return [(pattern[1], value)]
        if pattern[0] == "numis":
            return [] if value == ("num", pattern[1]) else None
        if not isinstance(value, int) or self.heap[value][0] != ("shape", pattern[1]) or len(self.heap[value][1]) != len(pattern[2]):
            return None
        pairs = []
        for inner, part in zip(pattern[2], self.heap[value][1]):
            more = self.fit(inner, part)
            if more is None:
                return None
            pairs += more
        return pairs

    def give_second(self, label, words, value):
        one, behind = words
        if isinstance(one, int) or isinstance(value, int):
            return None
        told = {"+": lambda a, b: a + b, "-": lambda a, b: a - b, "*": lambda a, b: a * b, "<": lambda a, b: a < b, "=": lambda a, b: a == b}[label[1]](one[1], value[1])
        if isinstance(told, bool):
            self.doing = ("give", self.make(("shape", "Yes" if told else "No")))
        elif abs(told) > 10 ** 12:
            return None
        else:
            self.doing = ("give", ("num", told))
        self.top = behind
        return "op"

    def give_do(self, label, words, value):
        at = words[0]
        while at is not None:
            frame, inner = self.heap[at]
            row = [row for row in frame[2] if row[0] == label[1]] if frame[0] == "answer" else []
            if row:
                break
            at = inner[0] if frame[0] == "do" else inner[1]
        else:
            return None
        _, entry, rest, body = row[0]
        copy = self.copied(words[0], at, None)
        held = self.make(("rest",), copy)
        names = self.bind(inner[0], (entry, value), (rest, held))
        self.doing = ("go", body, names)
        self.top = inner[1]
        return "deed"
