"""Where names are bound in trees, told of trees without raising errors."""

from nearanswer.treeforms import fits_tree, is_name, parts_in, pattern_names, with_parts

LETTERS = "abcdefghijklmnopqrstuvwxyz"


def scopes(tree):
    """For each part a triple: the names bound in the text just ahead of it, those bound in it, and the part."""
    word = tree[0]
    if word == "fun":
        return [((tree[1],), (tree[1],), tree[2])]
    if word == "let":
        return [((tree[1],), (), tree[2]), ((), (tree[1],), tree[3])]
    if word == "rec":
        both = (tree[1], tree[2])
        return [(both, both, tree[3]), ((), (tree[1],), tree[4])]
    if word == "match":
        return [((), (), tree[1])] + [match_scope(row) for row in tree[2]]
    if word == "answer":
        name, body = tree[2]
        rows = [(row[1:3], row[1:3], row[3]) for row in tree[3]]
        return [((), (), tree[1]), ((name,), (name,), body)] + rows
    return [((), (), part) for part in parts_in(tree)]


def match_scope(row):
    names = tuple(pattern_names(row[0]))
    return (names, names, row[1])


def with_added(table, names):
    """The table with these names as further keys."""
    if len(names) == 0:
        return table
    grown = {name: table[name] for name in table}
    for name in names:
        grown[name] = True
    return grown


def with_told(table, more):
    """The table with all that a newer table tells."""
    grown = {name: table[name] for name in table}
    for name in more:
        grown[name] = more[name]
    return grown


def without(table, names):
    """The table without these names."""
    if not any([name in table for name in names]):
        return table
    return {name: table[name] for name in table if name not in names}


def free_in(tree):
    """The ascending list of the names that are free in a tree."""
    found = {}
    waiting = [(tree, {})]
    while waiting:
        one, bound = waiting.pop()
        if one[0] == "name" and one[1] not in bound:
            found[one[1]] = True
        for _, names, part in scopes(one):
            waiting.append((part, with_added(bound, names)))
    return sorted(found)


def bound_in(tree):
    """The names that a tree binds, in the order of its text."""
    found = []
    waiting = [((), tree)]
    while waiting:
        names, one = waiting.pop()
        found.extend(names)
        waiting.extend([(fresh, part) for fresh, _, part in scopes(one)][::-1])
    return found


def fits_program(value):
    """Whether any value is a program."""
    return fits_tree(value) and len(free_in(value)) == 0


def put_in(tree, table):
    """The tree with the trees of a table put for its names; nothing may be free in these that is bound here."""
    if len(table) == 0:
        return tree
    if tree[0] == "name":
        return table.get(tree[1], tree)
    parts = []
    for _, bound, part in scopes(tree):
        parts.append(put_in(part, without(table, bound)))
    return with_parts(tree, parts)


def lump_at(index):
    """The lump with an index among "a" to "z", "aa", "ab" and so on."""
    text = ""
    left = index + 1
    while left > 0:
        left, low = divmod(left - 1, 26)
        text = LETTERS[low] + text
    return text


def plain_names(many, taken):
    """The first so many plain names, those left out that are taken."""
    barred = {name: True for name in taken}
    names = []
    index = 0
    while len(names) < many:
        name = lump_at(index)
        if is_name(name) and name not in barred:
            names.append(name)
        index = index + 1
    return names


def pattern_with(pattern, table):
    """The pattern with each name changed as the table tells."""
    if pattern[0] == "bind":
        return ("bind", table[pattern[1]])
    if pattern[0] != "shapeis":
        return pattern
    inner = []
    for part in pattern[2]:
        inner.append(pattern_with(part, table))
    return (pattern[0], pattern[1], tuple(inner))


def with_bound(tree, names):
    """The tree with other names in the place of those that it binds itself, in the order of its text."""
    word = tree[0]
    if word == "fun" or word == "let":
        return (word, names[0]) + tree[2:]
    if word == "rec":
        return (word, names[0], names[1]) + tree[3:]
    if word == "match":
        return (word, tree[1], tuple(rows_with(tree[2], names)))
    if word == "answer":
        rows = [(row[0], names[2 * at + 1], names[2 * at + 2], row[3]) for at, row in enumerate(tree[3])]
        return (word, tree[1], (names[0], tree[2][1]), tuple(rows))
    return tree


def rows_with(rows, names):
    """The rows of a match with other names in their patterns."""
    changed = []
    begin = 0
    for pattern, body in rows:
        old = pattern_names(pattern)
        end = begin + len(old)
        changed.append((pattern_with(pattern, dict(zip(old, names[begin:end]))), body))
        begin = end
    return changed


def renamed(tree, table, names, at):
    """The tree with its bound names changed to those from an index on, and the index behind the last one used."""
    if tree[0] == "name":
        return (("name", table.get(tree[1], tree[1])), at)
    given = []
    parts = []
    new = {}
    for fresh, bound, part in scopes(tree):
        for name in fresh:
            new[name] = names[at]
            given.append(names[at])
            at = at + 1
        changed, at = renamed(part, with_changed(table, bound, new), names, at)
        parts.append(changed)
    return (with_parts(with_bound(tree, given), parts), at)


def with_changed(table, names, new):
    """The table with these names told by a newer table."""
    if len(names) == 0:
        return table
    grown = {name: table[name] for name in table}
    for name in names:
        grown[name] = new[name]
    return grown


def plain(tree):
    """The alike tree with plain names."""
    names = plain_names(len(bound_in(tree)), free_in(tree))
    return renamed(tree, {}, names, 0)[0]


def has_plain_names(tree):
    return bound_in(tree) == plain_names(len(bound_in(tree)), free_in(tree))
