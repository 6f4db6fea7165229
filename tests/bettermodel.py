"""Betterings told once more, by what trees with plain names are alike, and by the functions of the interface."""

import itertools

from nearanswer.errors import InvalidTree
from nearanswer.names import are_alike, bound_names, free_names
from nearanswer.quiet import fit_seen, is_quiet, is_silent, is_sure, open_place
from nearanswer.runs import run_of, course_of
from nearanswer.treeforms import part_by as part_at, parts_in as parts_of
from nearanswer.trees import all_paths, is_tree, put_at

FRESH = ["qq" + one + two for one in "abcdefghijklmnopqrstuvwxyz" for two in "abcdefghijklmnopqrstuvwxyz"]


def blindly(tree, table):
    """The tree with trees put for names at all places at which these are free, be they caught there or not."""
    if tree[0] == "name":
        return table.get(tree[1], tree)
    names = names_by_part(tree)
    for at, part in enumerate(parts_of(tree)):
        tree = with_part(tree, at, blindly(part, {name: table[name] for name in table if name not in names[at]}))
    return tree


def with_part(tree, at, part):
    """put_at without its check of the bounds."""
    if tree[0] == "shape":
        return tree[:2] + (tree[2][:at] + (part,) + tree[2][at + 1:],)
    if tree[0] == "match":
        rows = tuple((row[0], part) if at == index + 1 else row for index, row in enumerate(tree[2]))
        return ("match", part if at == 0 else tree[1], rows)
    if tree[0] == "answer":
        rows = tuple(row[:3] + (part,) if at == index + 2 else row for index, row in enumerate(tree[3]))
        return ("answer", part if at == 0 else tree[1], (tree[2][0], part if at == 1 else tree[2][1]), rows)
    first = {"fun": 2, "let": 2, "rec": 3, "call": 1, "op": 2, "do": 2}[tree[0]]
    return tree[:first + at] + (part,) + tree[first + at + 1:]


def pattern_names(pattern):
    if pattern[0] == "bind":
        return [pattern[1]]
    return [name for part in pattern[2] for name in pattern_names(part)] if pattern[0] == "shapeis" else []


def names_by_part(tree):
    """For each part the names that the tree itself binds there."""
    if tree[0] == "fun":
        return [[tree[1]]]
    if tree[0] == "let":
        return [[], [tree[1]]]
    if tree[0] == "rec":
        return [[tree[1], tree[2]], [tree[1]]]
    if tree[0] == "match":
        return [[]] + [pattern_names(row[0]) for row in tree[2]]
    if tree[0] == "answer":
        return [[], [tree[2][0]]] + [[row[1], row[2]] for row in tree[3]]
    return [[] for _ in parts_of(tree)]


def renamed(tree, names, table=()):
    """The alike tree in which each binding has the next one of these names."""
    table = dict(table)
    if tree[0] == "name":
        return ("name", table.get(tree[1], tree[1]))
    fresh = {}
    told = tree
    for name in dict.fromkeys(name for part in names_by_part(tree) for name in part):
        fresh[name] = next(names)
    bound = names_by_part(tree)
    for at, part in enumerate(parts_of(tree)):
        inner = {**table, **{name: fresh[name] for name in bound[at]}}
        told = with_part(told, at, renamed(part, names, inner))
    return with_names(told, fresh)


def with_names(tree, fresh):
    if tree[0] in ("fun", "let"):
        return (tree[0], fresh[tree[1]]) + tree[2:]
    if tree[0] == "rec":
        return ("rec", fresh[tree[1]], fresh[tree[2]]) + tree[3:]
    if tree[0] == "match":
        return ("match", tree[1], tuple((pattern_with(row[0], fresh), row[1]) for row in tree[2]))
    if tree[0] == "answer":
        rows = tuple((row[0], fresh[row[1]], fresh[row[2]], row[3]) for row in tree[3])
        return ("answer", tree[1], (fresh[tree[2][0]], tree[2][1]), rows)
    return tree


def pattern_with(pattern, fresh):
    if pattern[0] == "bind":
        return ("bind", fresh[pattern[1]])
    return pattern[:2] + (tuple(pattern_with(part, fresh) for part in pattern[2]),) if pattern[0] == "shapeis" else pattern


def carefully(tree, table):
    """The tree with trees put for names, its bound names being other ones than all that stand in these."""
    return blindly(renamed(tree, iter(FRESH)), table)


def put(tree, table):
    """[46]: None if a name is caught, or if one for which something is put is free in what is put."""
    if any(name in free_names(table[other]) for name in table for other in table):
        return None
    told = blindly(tree, table)
    if not is_tree(told):
        return told
    return told if are_alike(told, carefully(tree, table)) else None


def bound_by(pattern, tree):
    if pattern[0] == "bind":
        return {pattern[1]: tree}
    told = {}
    if pattern[0] == "shapeis":
        for inner, part in zip(pattern[2], tree[2]):
            told.update(bound_by(inner, part))
    return told


def without(rows, index):
    return rows[:index] + rows[index + 1:]


def changed(spot, word, more):
    """[47], word by word: what the spot becomes, or None."""
    kind = spot[0]
    if word == "call" and kind == "call" and spot[1][0] == "fun" and is_sure(spot[2]):
        return put(spot[1][2], {spot[1][1]: spot[2]})
    if word == "let" and kind == "let" and is_sure(spot[2]):
        return put(spot[3], {spot[1]: spot[2]})
    if word == "plain" and kind == "answer" and is_sure(spot[1]):
        return put(spot[2][1], {spot[2][0]: spot[1]})
    if word == "fold" and kind == "op" and spot[2][0] == spot[3][0] == "num" and run_of(spot, 1)[0][0] == "value":
        return course_of(spot, 1)[-1]
    if word == "nought" and kind == "op":
        left = [(("num", 0), "+"), (("num", 1), "*")]
        for inner, pair in ((spot[3], (spot[2], spot[1])), (spot[2], (spot[3], spot[1]))):
            others = left if inner is spot[3] and inner is not spot[2] else left + [(("num", 0), "-")]
            if inner[0] == "op" and inner[1] in "+-*" and pair in others:
                return inner
    if word == "drop" and (kind == "let" and is_quiet(spot[2]) or kind == "rec") and spot[1] not in free_names(spot[-1]):
        return spot[-1]
    if word == "pick" and kind == "match" and is_sure(spot[1]):
        fits = [row for row in spot[2] if fit_seen(row[0], spot[1]) is not False]
        if fits and fit_seen(fits[0][0], spot[1]):
            return put(fits[0][1], bound_by(fits[0][0], spot[1]))
    if word == "calm" and kind == "answer" and not spot[3]:
        return ("let", spot[2][0], spot[1], spot[2][1])
    if word in ("unfit", "idle"):
        return without_row(spot, word, more)
    if word == "deed" and kind == "answer":
        return answered(spot)
    if word == "out":
        return out(spot)
    return None


def without_row(spot, word, index):
    rows = spot[-1]
    if word == "idle":
        if spot[0] == "answer" and index < len(rows) and is_silent(spot[1], rows[index][0]):
            return spot[:-1] + (without(rows, index),)
        return None
    if spot[0] != "match" or len(rows) < 2 or index >= len(rows):
        return None
    pattern, one = rows[index][0], spot[1]
    if is_sure(one):
        never = fit_seen(pattern, one) is False
    elif one[0] == "op" and one[1] in "+-*":
        never = pattern[0] == "shapeis"
    elif one[0] == "op":
        never = pattern[0] == "numis" or pattern[0] == "shapeis" and pattern not in (("shapeis", "Yes", ()), ("shapeis", "No", ()))
    else:
        never = False
    return spot[:-1] + (without(rows, index),) if never else None


def answered(spot):
    place = open_place(spot)
    if not place or "it" in free_names(spot):
        return None
    do = part_at(spot, place)
    around = [part_at(spot, place[:many]) for many in range(len(place))]
    able = [one for one in around if one[0] == "answer" and do[0] == "do" and do[1] in [row[0] for row in one[3]]]
    if able != [spot] or not is_sure(do[2]):
        return None
    again = put_at(spot, place, ("name", "it"))
    row = [row for row in spot[3] if row[0] == do[1]][0]
    return put(row[3], {row[1]: do[2], row[2]: ("fun", "it", again)})


def out(spot):
    parts = {"call": 2, "op": 2, "match": 1, "do": 1, "let": 1, "answer": 1, "shape": 4}.get(spot[0], 0)
    unsure = [at for at, part in enumerate(parts_of(spot)[:parts]) if not is_sure(part)]
    if not unsure:
        return None
    inner = parts_of(spot)[unsure[0]]
    if inner[0] not in ("rec",) if spot[0] == "answer" else inner[0] not in ("let", "rec"):
        return None
    others = [name for at, part in enumerate(parts_of(spot)) if at != unsure[0] for name in free_names(part) if name not in names_by_part(spot)[at]]
    if inner[1] in others:
        return None
    return inner[:-1] + (with_part(spot, unsure[0], inner[-1]),)


def behind(tree, value):
    """The tree behind a bettering whose word is none but "share", None if it can't be done."""
    word, path, more = value
    told = changed(part_at(tree, path), word, more[0] if more else None)
    if told is None or not is_tree(told):
        return None
    try:
        return put_at(tree, path, told)
    except InvalidTree:
        return None


WORDS = {"call": 0, "let": 0, "plain": 0, "fold": 0, "nought": 0, "drop": 0, "pick": 0, "unfit": 1, "idle": 1, "calm": 0, "deed": 0, "out": 0}


def candidates(tree):
    for path in all_paths(tree):
        many = len(part_at(tree, path)[-1]) if part_at(tree, path)[0] in ("match", "answer") else 0
        for word in WORDS:
            for more in ([(index,) for index in range(many)] if WORDS[word] else [()]):
                yield (word, path, more)


def shared(tree, path, name, places):
    """The tree behind "share", None if it can't be done."""
    spot = part_at(tree, path)
    one = part_at(spot, places[0])
    whole = spot
    for place in places:
        if part_at(spot, place) != one or any(place != other and other[:len(place)] == place for other in places):
            return None
    for place in places:
        whole = put_at(whole, place, ("name", name))
    if name in free_names(spot) + bound_names(spot) or one[0] in ("num", "name") or not is_quiet(one) or len(places) not in range(2, 21):
        return None
    # What stands at the places means the same outside just if it is what comes there if it is put in from outside.
    if not are_alike(carefully(whole, {name: one}), spot):
        return None
    told = ("let", name, one, whole)
    try:
        return put_at(tree, path, told) if is_tree(told) else None
    except InvalidTree:
        return None


def alike_places(spot):
    """For each tree that stands in a spot at two places or more, these."""
    places = {}
    for path in all_paths(spot):
        places.setdefault(repr(part_at(spot, path)), []).append(path)
    return [paths for paths in places.values() if len(paths) > 1]


def pairs(paths):
    return list(itertools.combinations(paths, 2))[:6] + [tuple(paths)]
