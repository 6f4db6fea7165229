"""Sure, quiet and silent trees, open places, and patterns that fit sure trees, told without checks."""

from nearanswer.treeforms import parts_in
from nearanswer.work import stuck_at, worked_parts


def holds_sure(tree):
    """Whether a tree is sure."""
    waiting = [tree]
    while waiting:
        one = waiting.pop()
        if one[0] == "shape":
            waiting.extend(one[2])
        elif one[0] not in ("num", "name", "fun"):
            return False
    return True


def holds_quiet(tree):
    """Whether a tree is quiet."""
    waiting = [tree]
    while waiting:
        one = waiting.pop()
        if not is_quiet_itself(one):
            return False
        waiting.extend(quiet_parts(one))
    return True


def is_quiet_itself(tree):
    """Whether a tree is quiet if those of its parts are that have to be."""
    word = tree[0]
    if word == "match":
        return any([row[0][0] == "any" or row[0][0] == "bind" for row in tree[2]])
    if word == "op":
        return stuck_at(tree) is None
    return word != "call" and word != "do"


def quiet_parts(tree):
    """The parts that have to be quiet for a tree to be so."""
    word = tree[0]
    if word == "fun" or word == "op":
        return []
    if word == "rec":
        return [tree[4]]
    if word == "answer":
        return [tree[1], tree[2][1]]
    return parts_in(tree)


def open_parts(tree):
    """The parts of a tree in which something stands open in it, too."""
    if tree[0] == "fun":
        return []
    if tree[0] == "rec":
        return [tree[4]]
    return parts_in(tree)


def holds_silent(tree, deed):
    """Whether neither a call nor a do with a deed stands open in a tree."""
    waiting = [tree]
    while waiting:
        one = waiting.pop()
        if one[0] == "call" or (one[0] == "do" and one[1] == deed):
            return False
        waiting.extend(open_parts(one))
    return True


def first_unsure(tree):
    """The index of the first part that is worked out and is not sure, None if there is none."""
    for index, part in enumerate(worked_parts(tree)):
        if not holds_sure(part):
            return index
    return None


def open_trail(tree):
    """Of a tree that is not sure, the trail to its open place, and the tree there."""
    trail = []
    spot = tree
    index = first_unsure(spot)
    while index is not None:
        trail.append((spot, index))
        spot = parts_in(spot)[index]
        index = first_unsure(spot)
    return (trail, spot)


def seen_fit(pattern, tree):
    """Whether a pattern fits a sure tree surely (True), not at all (False), or maybe (None)."""
    is_sure = True
    waiting = [(pattern, tree)]
    while waiting:
        one, part = waiting.pop()
        if one[0] == "any" or one[0] == "bind":
            continue
        if part[0] == "name":
            is_sure = None
        elif one[0] == "numis":
            if part != ("num", one[1]):
                return False
        elif part[0] != "shape" or part[1] != one[1] or len(part[2]) != len(one[2]):
            return False
        else:
            waiting.extend(list(zip(one[2], part[2])))
    return is_sure
