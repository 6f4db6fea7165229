"""Forms of shown values."""

from nearanswer.treeforms import MOST_DEPTH, MOST_SIZE, is_number, is_tag, is_tuple_of


def is_shown_value(value):
    """Whether any value is the shown form of a value: the least that can be shown so is no greater than a tree."""
    many = 0
    waiting = [(value, 1)]
    while waiting:
        one, deep = waiting.pop()
        many = many + 1
        if one == "fun" and type(one) is str:
            # A function has a body.
            many = many + 1
            deep = deep + 1
        elif is_tuple_of(one, 2, 2) and is_tag(one[0]) and is_tuple_of(one[1], 0, 4):
            waiting.extend([(part, deep + 1) for part in one[1]])
        elif not is_number(one):
            return False
        if many > MOST_SIZE or deep > MOST_DEPTH:
            return False
    return True
