"""Putting trees for names where nothing is caught, told without checks."""

from nearanswer.bindings import free_in, put_in, scopes, with_added


def put_uncaught(tree, table):
    """The tree with the trees of a table put for its names, None if they may not be put."""
    free = {name: free_in(table[name]) for name in table}
    for name in free:
        if any([other in free[name] for other in table]):
            return None
    if catches(tree, free):
        return None
    return put_in(tree, table)


def catches(tree, free):
    """Whether a name is caught if what is put for the names of a table has these free names."""
    waiting = [(tree, {})]
    while waiting:
        one, bound = waiting.pop()
        if one[0] == "name" and one[1] in free and one[1] not in bound:
            if any([name in bound for name in free[one[1]]]):
                return True
        for _, names, part in scopes(one):
            waiting.append((part, with_added(bound, names)))
    return False
