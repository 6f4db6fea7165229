"""Reading tokens as trees."""

from nearanswer.errors import InvalidText
from nearanswer.treeforms import BARRED, MOST_NUMBER, SIGNS, is_name, is_tag

# The heads of wide trees nest without brackets, so that texts are refused by these bounds before they are read.
MOST_BRACKETS = 80
MOST_WORDS = 60
NESTING_WORDS = ("fun", "let", "rec", "match", "answer")


def is_figures(token):
    """Whether a string is the figures of an integer as Python writes it."""
    if token == "" or not all(["0" <= sign <= "9" for sign in token]):
        return False
    return token == "0" or token[0] != "0"


def is_lump_token(lump):
    return lump in BARRED or is_name(lump) or is_tag(lump) or is_figures(lump)


def number_told(figures):
    """The integer of figures; for what is far beyond all bounds of numbers, some number beyond them."""
    if len(figures) > 20:
        return MOST_NUMBER * 10
    return int(figures)


def is_too_nested(tokens):
    """Whether too many brackets are open at once, or too many words stand that nest trees."""
    opened = 0
    words = 0
    for _, token in tokens:
        if token in ("(", "{"):
            opened = opened + 1
        elif token in (")", "}"):
            opened = max(opened - 1, 0)
        elif token in NESTING_WORDS:
            words = words + 1
        if opened > MOST_BRACKETS or words > MOST_WORDS:
            return True
    return False


def folded(trees, signs, level):
    """Trees and the signs between them, with the ops of the signs of a level made, from the left on."""
    made = [trees[0]]
    left = []
    for sign, tree in zip(signs, trees[1:]):
        if sign in level:
            made[-1] = ("op", sign, made[-1], tree)
        else:
            made.append(tree)
            left.append(sign)
    return (made, left)


def compared(trees, signs):
    """The tree of trees with signs between them."""
    for level in (("*",), ("+", "-"), ("<", "=")):
        trees, signs = folded(trees, signs, level)
    return trees[0]


class Reader:
    """Reads the tokens of a text one after another; the place is that of the next token."""

    def __init__(self, tokens, length):
        self.tokens = tokens
        self.length = length
        self.place = 0

    def seen(self):
        """The next token, "" behind the last one."""
        if self.place < len(self.tokens):
            return self.tokens[self.place][1]
        return ""

    def fail(self):
        if self.place < len(self.tokens):
            raise InvalidText(self.tokens[self.place][0])
        raise InvalidText(self.length)

    def step(self):
        """The next token, which is taken."""
        token = self.seen()
        self.place = self.place + 1
        return token

    def take(self, token):
        if self.seen() != token:
            self.fail()
        self.step()

    def take_name(self):
        if not is_name(self.seen()):
            self.fail()
        return self.step()

    def whole(self):
        """The tree of all tokens."""
        tree = self.wide()
        if self.place < len(self.tokens):
            self.fail()
        return tree

    def wide(self):
        """A wide tree. Ops and calls are gathered here, so that each bracket nests few calls of methods."""
        heads = []
        while self.seen() in ("fun", "let", "rec"):
            heads.append(self.head())
        trees = []
        signs = []
        while len(trees) == len(signs):
            deed = self.deed_ahead()
            tree = self.close()
            if deed != "":
                tree = ("do", deed, tree)
            while self.is_close_ahead():
                tree = ("call", tree, self.close())
            trees.append(tree)
            if self.is_sign_ahead(signs):
                signs.append(self.step())
        tree = compared(trees, signs)
        for head in heads[::-1]:
            tree = head + (tree,)
        return tree

    def head(self):
        """What stands ahead of the body of a wide tree."""
        word = self.step()
        name = self.take_name()
        if word == "fun":
            self.take("->")
            return (word, name)
        row = (word, name)
        if word == "rec":
            row = (word, name, self.take_name())
        self.take("=")
        one = self.wide()
        self.take("in")
        return row + (one,)

    def is_sign_ahead(self, signs):
        """Whether an op goes on; only one comparison stands in a row of ops."""
        sign = self.seen()
        if sign in ("<", "="):
            return "<" not in signs and "=" not in signs
        return sign in SIGNS

    def deed_ahead(self):
        """The deed of a do that begins here, "" if none does."""
        if self.seen() != "do":
            return ""
        self.step()
        return self.take_name()

    def is_close_ahead(self):
        token = self.seen()
        return token in ("(", "match", "answer") or is_name(token) or is_tag(token) or is_figures(token)

    def close(self):
        token = self.seen()
        if not self.is_close_ahead():
            self.fail()
        self.step()
        if token == "(":
            return self.in_brackets()
        if token == "match":
            return self.match_behind()
        if token == "answer":
            return self.answer_behind()
        if is_name(token):
            return ("name", token)
        if is_tag(token):
            return ("shape", token, self.parts_behind())
        return ("num", number_told(token))

    def in_brackets(self):
        if self.seen() == "-":
            return ("num", self.number_below())
        tree = self.wide()
        self.take(")")
        return tree

    def number_below(self):
        """The number below 0 behind an opened bracket."""
        self.take("-")
        if not is_figures(self.seen()) or self.seen() == "0":
            self.fail()
        number = -number_told(self.step())
        self.take(")")
        return number

    def parts_behind(self):
        """The parts of a shape, in parentheses."""
        self.take("(")
        parts = []
        if self.seen() != ")":
            parts.append(self.wide())
            while self.seen() == ",":
                self.step()
                parts.append(self.wide())
        self.take(")")
        return tuple(parts)

    def match_behind(self):
        one = self.wide()
        self.take("{")
        rows = [self.match_row()]
        while self.seen() == ";":
            self.step()
            rows.append(self.match_row())
        self.take("}")
        return ("match", one, tuple(rows))

    def match_row(self):
        pattern = self.pattern()
        self.take("->")
        return (pattern, self.wide())

    def answer_behind(self):
        one = self.wide()
        self.take("{")
        self.take("plain")
        name = self.take_name()
        self.take("->")
        pair = (name, self.wide())
        rows = []
        while self.seen() == ";":
            self.step()
            names = (self.take_name(), self.take_name(), self.take_name())
            self.take("->")
            rows.append(names + (self.wide(),))
        self.take("}")
        return ("answer", one, pair, tuple(rows))

    def pattern(self):
        token = self.seen()
        if token == "(":
            self.step()
            return ("numis", self.number_below())
        if is_tag(token):
            self.step()
            return ("shapeis", token, self.patterns_behind())
        if token != "_" and not is_name(token) and not is_figures(token):
            self.fail()
        self.step()
        if token == "_":
            return ("any",)
        if is_name(token):
            return ("bind", token)
        return ("numis", number_told(token))

    def patterns_behind(self):
        """The patterns in a pattern, in parentheses."""
        self.take("(")
        patterns = []
        if self.seen() != ")":
            patterns.append(self.pattern())
            while self.seen() == ",":
                self.step()
                patterns.append(self.pattern())
        self.take(")")
        return tuple(patterns)
