"""Uses of names, ends of trees, and how bodies use their rests, told without raising errors."""

from nearanswer.bindings import scopes
from nearanswer.treeforms import part_by, parts_in


def uses_in(tree, name):
    """The ascending list of the paths of all uses of a name."""
    found = []
    waiting = [((), tree)]
    while waiting:
        path, one = waiting.pop()
        if one == ("name", name):
            found.append(path)
        for at, (_, bound, part) in list(enumerate(scopes(one)))[::-1]:
            if name not in bound:
                waiting.append((path + (at,), part))
    return found


def end_indices(tree):
    """The indices of the parts whose ends are those of a tree, none if it is an end itself."""
    many = len(parts_in(tree))
    if tree[0] == "let" or tree[0] == "rec" or tree[0] == "match":
        return list(range(1, many))
    return []


def ends_in(tree):
    """The ascending list of the paths of all ends of a tree."""
    found = []
    waiting = [((), tree)]
    while waiting:
        path, one = waiting.pop()
        indices = end_indices(one)
        if len(indices) == 0:
            found.append(path)
        parts = parts_in(one)
        for at in indices[::-1]:
            waiting.append((path + (at,), parts[at]))
    return found


def is_held(tree, use):
    """Whether a use lies within a function or an answerer, or within the made of a rec, or is this."""
    one = tree
    for index in use:
        if one[0] == "fun" or one[0] == "answer" or (one[0] == "rec" and index == 0):
            return True
        one = parts_in(one)[index]
    return False


def are_apart(tree, use, other):
    """Whether two unlike uses lie in two unlike rows of the deepest tree on the paths of both."""
    many = 0
    while use[many] == other[many]:
        many = many + 1
    return part_by(tree, use[:many])[0] == "match" and use[many] > 0 and other[many] > 0


def use_word(body, rest):
    """The word by which a body uses its rest."""
    uses = uses_in(body, rest)
    if len(uses) == 0:
        return "never"
    if goes_last(body, uses):
        return "last"
    if many_witness(body, uses) is None:
        return "once"
    return "many"


def goes_last(body, uses):
    """Whether the uses are just those that the ends of a body call."""
    ends = ends_in(body)
    if not all([part_by(body, end)[0] == "call" for end in ends]):
        return False
    return [end + (0,) for end in ends] == uses


def many_witness(body, uses):
    """A tuple of a use that is held, or of two that are not apart, None if there are none."""
    for use in uses:
        if is_held(body, use):
            return (use,)
    # If two uses are not apart, two that follow upon one another are not.
    for use, other in zip(uses, uses[1:]):
        if not are_apart(body, use, other):
            return (use, other)
    return None


def answerer_rows(tree):
    """The triples (path, deed, word) of all rows of all answerers in a tree, in order."""
    told = []
    waiting = [((), tree)]
    while waiting:
        path, one = waiting.pop()
        if one[0] == "answer":
            for deed, _, rest, body in one[3]:
                told.append((path, deed, use_word(body, rest)))
        waiting.extend([(path + (at,), part) for at, part in enumerate(parts_in(one))][::-1])
    return told
