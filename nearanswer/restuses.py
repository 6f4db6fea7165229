"""How the rows of answerers use their rests, and papers about it."""

from nearanswer.checks import check_name, check_tree
from nearanswer.treeforms import is_tuple_of
from nearanswer.uses import answerer_rows, are_apart, ends_in, is_held, many_witness, use_word, uses_in


def check_body(body, rest):
    check_tree(body)
    check_name(rest)


def uses_of(body, rest):
    """The ascending list of all uses of a name."""
    check_body(body, rest)
    return uses_in(body, rest)


def tree_ends(body):
    """The ascending list of the paths of all ends of a tree."""
    check_tree(body)
    return ends_in(body)


def rest_use(body, rest):
    """The word by which a body uses its rest."""
    check_body(body, rest)
    return use_word(body, rest)


def row_uses(tree):
    """The list of the triples (path, deed, word) of all rows of all answerers in a tree."""
    check_tree(tree)
    return answerer_rows(tree)


def use_paper(body, rest):
    """A use paper for a body and its rest."""
    check_body(body, rest)
    word = use_word(body, rest)
    uses = uses_in(body, rest)
    if word == "many":
        return (word, many_witness(body, uses))
    return (word, tuple(uses))


def is_use_paper(body, rest, value):
    """Whether any value is a use paper for a body and its rest."""
    check_body(body, rest)
    if not is_tuple_of(value, 2, 2) or type(value[0]) is not str or type(value[1]) is not tuple:
        return False
    word, paths = value
    if word != use_word(body, rest) or not all([is_index_row(path) for path in paths]):
        return False
    uses = uses_in(body, rest)
    if word != "many":
        return list(paths) == uses
    if not all([path in uses for path in paths]):
        return False
    if len(paths) == 1:
        return is_held(body, paths[0])
    return len(paths) == 2 and paths[0] < paths[1] and not are_apart(body, paths[0], paths[1])


def is_index_row(value):
    """Whether a value is a tuple of integers; True and False are equal to some, but are none."""
    return type(value) is tuple and all([type(index) is int for index in value])
