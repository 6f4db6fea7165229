"""Flat trees, and how trees are opened to them, told without raising errors."""

from nearanswer.bindings import bound_in, free_in, has_plain_names, plain, plain_names
from nearanswer.treeforms import parts_in, with_part, with_parts


def is_atom(tree):
    return tree[0] == "num" or tree[0] == "name"


def holds_flat(tree):
    """Whether a tree is flat."""
    waiting = [tree]
    while waiting:
        one = waiting.pop()
        if not is_flat_outside(one):
            return False
        waiting.extend(parts_in(one))
    return True


def is_flat_outside(tree):
    """Whether a tree is flat, if its parts are: some of them must be atoms, and that of a let no let or rec."""
    word = tree[0]
    if word in ("call", "op", "do", "shape"):
        return all([is_atom(part) for part in parts_in(tree)])
    if word == "match":
        return is_atom(tree[1])
    if word == "let":
        return tree[2][0] != "let" and tree[2][0] != "rec"
    return True


def is_flat_program(tree):
    """Whether a tree is a flat program with plain names."""
    return len(free_in(tree)) == 0 and has_plain_names(tree) and holds_flat(tree)


def flattened(tree):
    """The flat form of a tree."""
    named = plain(tree)
    many = len(bound_in(named))
    # Each part that is opened needs one new name at most, and opening takes the names behind those of the tree.
    names = plain_names(many + parts_below(named), free_in(named))
    flat, _ = flat_of(named, names, many)
    return plain(flat)


def parts_below(tree):
    """How many trees stand in a tree."""
    many = 0
    waiting = [tree]
    while waiting:
        parts = parts_in(waiting.pop())
        many = many + len(parts)
        waiting.extend(parts)
    return many


def flat_of(tree, names, at):
    """The flat form of a tree with unlike names, and the index of the first name that is not used then."""
    line, bare, at = opened(tree, names, at)
    for head in line[::-1]:
        bare = head + (bare,)
    return (bare, at)


def opened(tree, names, at):
    """The line of a tree, as the heads of lets and recs that lack their bodies, its bare tree, and that index."""
    word = tree[0]
    if word == "let":
        line, bare, at = opened(tree[2], names, at)
        more, body, at = opened(tree[3], names, at)
        return (line + [("let", tree[1], bare)] + more, body, at)
    if word == "rec":
        made, at = flat_of(tree[3], names, at)
        line, body, at = opened(tree[4], names, at)
        return ([("rec", tree[1], tree[2], made)] + line, body, at)
    if word == "fun" or word == "answer":
        return opened_scopes(tree, 0, [], names, at)
    if word == "match":
        line, one, at = opened_atom(tree[1], names, at)
        return opened_scopes(with_part(tree, 0, one), 1, line, names, at)
    line = []
    atoms = []
    for part in parts_in(tree):
        more, atom, at = opened_atom(part, names, at)
        line = line + more
        atoms.append(atom)
    return (line, with_parts(tree, atoms), at)


def opened_scopes(tree, begin, line, names, at):
    """What opened tells of a tree with a line, flat forms being put for its parts from an index on."""
    parts = parts_in(tree)
    flat = parts[:begin]
    for part in parts[begin:]:
        form, at = flat_of(part, names, at)
        flat.append(form)
    return (line, with_parts(tree, flat), at)


def opened_atom(tree, names, at):
    """The line of a tree, with a let of a new name if its bare tree is no atom; the atom; and that index."""
    line, bare, at = opened(tree, names, at)
    if is_atom(bare):
        return (line, bare, at)
    return (line + [("let", names[at], bare)], ("name", names[at]), at + 1)
