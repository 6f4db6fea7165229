"""Texts of trees, written and read."""

from nearanswer.checks import check_tree
from nearanswer.errors import InvalidText, InvalidTree
from nearanswer.reading import Reader, is_lump_token, is_too_nested
from nearanswer.treeforms import fits_tree, is_short

LUMP_SIGNS = "abcdefghijklmnopqrstuvwxyzABCDEFGHIJKLMNOPQRSTUVWXYZ0123456789"
SINGLE_SIGNS = "(){},;=<+-*_"

# How tightly the forms of trees hold together; all others are close.
LEVELS = {"fun": 0, "let": 0, "rec": 0, "<": 1, "=": 1, "+": 2, "-": 2, "*": 3, "call": 4, "do": 4}
CLOSE = 5
SIDES = {"<": (2, 2), "=": (2, 2), "+": (2, 3), "-": (2, 3), "*": (3, 4)}


def tree_text(tree):
    """The text of a tree."""
    check_tree(tree)
    return text_in(tree, 0)


def text_in(tree, least):
    """The text of a tree where one stands that holds together at least so tightly."""
    text = bare_text(tree)
    level = LEVELS.get(tree[0], CLOSE)
    if tree[0] == "op":
        level = LEVELS[tree[1]]
    if level < least:
        return "(" + text + ")"
    return text


def bare_text(tree):
    word = tree[0]
    if word == "num":
        return number_text(tree[1])
    if word == "name":
        return tree[1]
    if word == "fun":
        return "fun " + tree[1] + " -> " + text_in(tree[2], 0)
    if word == "call":
        return text_in(tree[1], LEVELS["call"]) + " " + text_in(tree[2], CLOSE)
    if word == "let":
        return "let " + tree[1] + " = " + text_in(tree[2], 0) + " in " + text_in(tree[3], 0)
    if word == "rec":
        head = "rec " + tree[1] + " " + tree[2]
        return head + " = " + text_in(tree[3], 0) + " in " + text_in(tree[4], 0)
    if word == "op":
        left, right = SIDES[tree[1]]
        return text_in(tree[2], left) + " " + tree[1] + " " + text_in(tree[3], right)
    if word == "do":
        return "do " + tree[1] + " " + text_in(tree[2], CLOSE)
    if word == "shape":
        return shape_text(tree)
    return rows_text(tree)


def number_text(number):
    if number < 0:
        return "(" + str(number) + ")"
    return str(number)


def shape_text(tree):
    texts = []
    for part in tree[2]:
        texts.append(text_in(part, 0))
    return tree[1] + "(" + ", ".join(texts) + ")"


def rows_text(tree):
    """The text of a match or of an answerer."""
    rows = []
    if tree[0] == "match":
        for pattern, body in tree[2]:
            rows.append(pattern_text(pattern) + " -> " + text_in(body, 0))
    else:
        rows.append("plain " + tree[2][0] + " -> " + text_in(tree[2][1], 0))
        for deed, entry, rest, body in tree[3]:
            rows.append(deed + " " + entry + " " + rest + " -> " + text_in(body, 0))
    return tree[0] + " " + text_in(tree[1], 0) + " {" + "; ".join(rows) + "}"


def pattern_text(pattern):
    if pattern[0] == "any":
        return "_"
    if pattern[0] == "bind":
        return pattern[1]
    if pattern[0] == "numis":
        return number_text(pattern[1])
    texts = []
    for part in pattern[2]:
        texts.append(pattern_text(part))
    return pattern[1] + "(" + ", ".join(texts) + ")"


def tokens_of(text):
    """The list of the pairs (index, token) of all tokens of a text."""
    if type(text) is not str:
        raise InvalidText(0)
    tokens = []
    at = 0
    while at < len(text):
        end = token_end(text, at)
        if text[at] == "#":
            at = line_end(text, at)
        elif text[at] == " " or text[at] == "\n":
            at = at + 1
        elif end == at:
            raise InvalidText(at)
        else:
            tokens.append((at, text[at:end]))
            at = end
    return tokens


def token_end(text, at):
    """The index behind the token that begins at an index, this index itself if none does."""
    if text[at:at + 2] == "->":
        return at + 2
    if text[at] in SINGLE_SIGNS:
        return at + 1
    end = at
    while end < len(text) and text[end] in LUMP_SIGNS:
        end = end + 1
    if is_lump_token(text[at:end]):
        return end
    return at


def line_end(text, at):
    """The index of the end of the line in which an index lies."""
    end = text.find("\n", at)
    if end < 0:
        return len(text)
    return end


def read_tree(text):
    """The tree whose text it is."""
    tokens = tokens_of(text)
    if is_too_nested(tokens):
        raise InvalidTree("too much stands within one another")
    tree = Reader(tokens, len(text)).whole()
    if not fits_tree(tree) or not is_short(tree):
        raise InvalidTree("what is read is no short tree")
    return tree
