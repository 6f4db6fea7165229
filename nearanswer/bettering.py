"""Betterings of trees, told without checks."""

from nearanswer.spots import changed_spot, has_row_rule, rows_of
from nearanswer.treeforms import fits_path, is_tuple_of, is_within_bounds, part_by, paths_in, put_by

# All words but "share", ascending.
WORDS = ("call", "calm", "deed", "drop", "fold", "idle", "let", "nought", "out", "pick", "plain", "unfit")


def tree_behind(tree, value):
    """The tree behind a bettering, None if any value is none that can be done in the tree."""
    if not is_tuple_of(value, 3, 3) or type(value[0]) is not str or not fits_path(tree, value[1]):
        return None
    word, path, more = value
    changed = changed_spot(part_by(tree, path), word, more)
    if changed is None:
        return None
    whole = put_by(tree, path, changed)
    if not is_within_bounds(whole):
        return None
    return whole


def betterings_by(tree, word):
    """The ascending list of all betterings with a word, which is not "share"."""
    found = []
    for path in paths_in(tree):
        rows = [()]
        if has_row_rule(word):
            rows = [(index,) for index in range(len(rows_of(part_by(tree, path))))]
        for more in rows:
            if tree_behind(tree, (word, path, more)) is not None:
                found.append((word, path, more))
    return found


def first_bettering(tree):
    """The first bettering in ascending order that is none with "share", None if there is none."""
    for word in WORDS:
        found = betterings_by(tree, word)
        if len(found) > 0:
            return found[0]
    return None


def behind_all(tree, value):
    """The tree behind all betterings of a paper, None if any value is no paper of the tree."""
    if not is_tuple_of(value, 0, 200):
        return None
    whole = tree
    for step in value:
        whole = tree_behind(whole, step)
        if whole is None:
            return None
    return whole
