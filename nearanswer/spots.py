"""What the betterings make of the trees to which their paths lead, told without checks.

Each function tells what its word makes of a spot, None if the spot is not as it has to be.
"""

from nearanswer.bindings import bound_in, free_in, scopes
from nearanswer.putting import put_uncaught
from nearanswer.sureness import first_unsure, holds_quiet, holds_silent, holds_sure, open_trail, seen_fit
from nearanswer.treeforms import fits_path, is_index_of, is_name, is_tuple_of, part_by, parts_in, put_by, with_part
from nearanswer.work import fitted, rest_of, row_for, stuck_at, worked_out

COUNTING_SIGNS = ("+", "-", "*")
CLOSED = ("num", 0)


def by_call(spot):
    if spot[0] != "call" or spot[1][0] != "fun" or not holds_sure(spot[2]):
        return None
    return put_uncaught(spot[1][2], {spot[1][1]: spot[2]})


def by_let(spot):
    if spot[0] != "let" or not holds_sure(spot[2]):
        return None
    return put_uncaught(spot[3], {spot[1]: spot[2]})


def by_plain(spot):
    if spot[0] != "answer" or not holds_sure(spot[1]):
        return None
    name, body = spot[2]
    return put_uncaught(body, {name: spot[1]})


def by_fold(spot):
    if spot[0] != "op" or stuck_at(spot) is not None:
        return None
    return worked_out(spot[1], spot[2][1], spot[3][1])


def is_counting(tree):
    """Whether a tree is an op that leads to a number if it leads to a value."""
    return tree[0] == "op" and tree[1] in COUNTING_SIGNS


def by_nought(spot):
    if spot[0] != "op":
        return None
    _, sign, one, two = spot
    if is_counting(one) and (sign, two) in (("+", ("num", 0)), ("-", ("num", 0)), ("*", ("num", 1))):
        return one
    if is_counting(two) and (sign, one) in (("+", ("num", 0)), ("*", ("num", 1))):
        return two
    return None


def by_drop(spot):
    if spot[0] == "let" and holds_quiet(spot[2]) and spot[1] not in free_in(spot[3]):
        return spot[3]
    if spot[0] == "rec" and spot[1] not in free_in(spot[4]):
        return spot[4]
    return None


def by_pick(spot):
    if spot[0] != "match" or not holds_sure(spot[1]):
        return None
    for pattern, body in spot[2]:
        fit = seen_fit(pattern, spot[1])
        if fit is True:
            return put_uncaught(body, fitted(pattern, spot[1]))
        if fit is None:
            return None
    return None


def by_calm(spot):
    if spot[0] != "answer" or len(spot[3]) > 0:
        return None
    name, body = spot[2]
    return ("let", name, spot[1], body)


def by_deed(spot):
    if spot[0] != "answer" or "it" in free_in(spot):
        return None
    trail, do = open_trail(spot)
    if do[0] != "do":
        return None
    row = row_for(spot, do[1])
    if row is None or any([one[0] == "answer" and row_for(one, do[1]) is not None for one, _ in trail[1:]]):
        return None
    _, entry, rest, body = row
    return put_uncaught(body, {entry: do[2], rest: rest_of(trail)})


def by_out(spot):
    index = first_unsure(spot)
    if index is None:
        return None
    inner = parts_in(spot)[index]
    if inner[0] != "rec" and (inner[0] != "let" or spot[0] == "answer"):
        return None
    if inner[1] in free_in(with_part(spot, index, CLOSED)):
        return None
    return inner[:-1] + (with_part(spot, index, inner[-1]),)


def without_row(spot, index):
    """A match or an answerer without a row."""
    rows = spot[-1]
    return spot[:-1] + (rows[:index] + rows[index + 1:],)


def by_unfit(spot, index):
    if spot[0] != "match" or len(spot[2]) < 2:
        return None
    if not is_seen_unfit(spot[2][index][0], spot[1]):
        return None
    return without_row(spot, index)


def is_seen_unfit(pattern, one):
    """Whether it can be seen that a pattern does not fit what a tree leads to."""
    if holds_sure(one):
        return seen_fit(pattern, one) is False
    if one[0] != "op":
        return False
    if is_counting(one):
        return pattern[0] == "shapeis"
    if pattern[0] == "shapeis":
        return pattern[1] not in ("Yes", "No") or len(pattern[2]) > 0
    return pattern[0] == "numis"


def by_idle(spot, index):
    if spot[0] != "answer" or not holds_silent(spot[1], spot[3][index][0]):
        return None
    return without_row(spot, index)


def by_share(spot, more):
    if not is_tuple_of(more, 2, 2) or not is_name(more[0]) or not are_places(spot, more[1]):
        return None
    name, paths = more
    tree = part_by(spot, paths[0])
    if name in free_in(spot) or name in bound_in(spot):
        return None
    if tree[0] == "num" or tree[0] == "name" or not holds_quiet(tree):
        return None
    whole = spot
    for path in paths:
        if part_by(spot, path) != tree or any([one in free_in(tree) for one in names_around(spot, path)]):
            return None
        whole = put_by(whole, path, ("name", name))
    return ("let", name, tree, whole)


def are_places(spot, value):
    """Whether a value is an ascending tuple of paths of a spot, none of which is the beginning of another one."""
    if not is_tuple_of(value, 2, 20) or not all([fits_path(spot, path) for path in value]):
        return False
    # If a path is the beginning of another one, it is that of the path behind it, too.
    return all([path < other and other[:len(path)] != path for path, other in zip(value, value[1:])])


def names_around(spot, path):
    """The names that are bound in a spot at the place to which a path leads."""
    names = []
    one = spot
    for index in path:
        _, bound, part = scopes(one)[index]
        names.extend(bound)
        one = part
    return names


# The rules of the words for a spot, and for a spot and the index of a row.
SPOT_RULES = {
    "call": by_call, "calm": by_calm, "deed": by_deed, "drop": by_drop, "fold": by_fold, "let": by_let,
    "nought": by_nought, "out": by_out, "pick": by_pick, "plain": by_plain,
}
ROW_RULES = {"idle": by_idle, "unfit": by_unfit}


def has_row_rule(word):
    return word in ROW_RULES


def rows_of(spot):
    """The rows of a match or of an answerer, none of another tree."""
    if spot[0] == "match" or spot[0] == "answer":
        return spot[-1]
    return ()


def changed_spot(spot, word, more):
    """What a spot becomes by a word and any value behind it, None if that can't be done."""
    if word == "share":
        return by_share(spot, more)
    if word in ROW_RULES:
        if not is_tuple_of(more, 1, 1) or not is_index_of(more[0], rows_of(spot)):
            return None
        rule = ROW_RULES[word]
        return rule(spot, more[0])
    if word not in SPOT_RULES or not is_tuple_of(more, 0, 0):
        return None
    rule = SPOT_RULES[word]
    return rule(spot)
