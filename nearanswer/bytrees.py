"""Programs led by trees of deeds."""

from nearanswer.checks import check_name, check_program, check_tree
from nearanswer.errors import InvalidName
from nearanswer.leading import (PART_NAMES, answerer_match, check_led_rows, deed_shape, did, done, gone_on, has_deeds,
                                plan_match, tag_of, used, with_led_names)
from nearanswer.shownforms import is_shown_value
from nearanswer.treeforms import is_name, is_tag, is_tuple_of, parts_in, with_parts


def deed_tag(name):
    """The tag of a deed."""
    check_name(name)
    return tag_of(name)


def tag_deed(tag):
    """The deed with a tag."""
    if not is_deed_tag(tag):
        raise InvalidName("this is no tag of a deed")
    return deed_of(tag)


def is_deed_tag(value):
    return is_tag(value) and is_name(deed_of(value))


def deed_of(tag):
    """What would have a tag, if it is a name."""
    return tag[0].lower() + tag[1:]


def is_without_deeds(tree):
    """Whether no do and no answerer stand in a tree."""
    check_tree(tree)
    return not has_deeds(tree)


def by_trees(program):
    """The program to which a program is led by trees of deeds, with plain names."""
    check_program(program)
    check_led_rows(program)
    behind = ("fun", "Again", ("call", ("call", used("After"), ("call", used("Rest"), used("Again"))), used("Next")))
    plan = plan_match(("Value", ("call", used("Next"), used("Value"))), did(used("Deed"), used("Value"), behind))
    return with_led_names(("rec", "After", "Plan", ("fun", "Next", plan), led_tree(program)))


def led_tree(tree):
    """What a tree is led to within a program."""
    word = tree[0]
    if word == "fun":
        return done(("fun", tree[1], led_tree(tree[2])))
    if word == "let":
        return after(tree[2], tree[1], led_tree(tree[3]))
    if word == "rec":
        return (word, tree[1], tree[2], led_tree(tree[3]), led_tree(tree[4]))
    if word == "match":
        rows = [(pattern, led_tree(body)) for pattern, body in tree[2]]
        return after(tree[1], "One", (word, used("One"), tuple(rows)))
    if word == "do":
        rest = ("fun", "Again", done(used("Again")))
        return after(tree[2], "One", did(deed_shape(tree[1]), used("One"), rest))
    if word == "answer":
        return led_answerer(tree)
    return led_parts(tree)


def after(tree, entry, body):
    """What becomes of a tree that is worked out ahead of a body, in which its value has the name of the entry."""
    return ("call", ("call", used("After"), led_tree(tree)), ("fun", entry, body))


def led_parts(tree):
    """What a tree is led to whose parts are all worked out, as are those of an op; an atom has none."""
    parts = parts_in(tree)
    names = PART_NAMES[:len(parts)]
    whole = with_parts(tree, [used(name) for name in names])
    if tree[0] != "call":
        whole = done(whole)
    for name, part in list(zip(names, parts))[::-1]:
        whole = after(part, name, whole)
    return whole


def led_answerer(tree):
    rows = [row[:3] + (led_tree(row[3]),) for row in tree[3]]
    pair = (tree[2][0], led_tree(tree[2][1]))
    made = answerer_match(pair, rows, did(used("Deed"), used("Value"), gone_on()))
    return ("rec", "Go", "Plan", made, ("call", used("Go"), led_tree(tree[1])))


def end_told(value):
    """The shown form of the end of a program, told by that of the program to which it was led."""
    if not is_tuple_of(value, 2, 2) or value[0] != "value" or not is_shown_value(value[1]):
        return value
    shown = value[1]
    if not is_tuple_of(shown, 2, 2):
        return value
    tag, parts = shown
    if tag == "Done" and len(parts) == 1:
        return ("value", parts[0])
    if tag == "Did" and len(parts) == 3 and is_shown_deed(parts[0]) and parts[2] == "fun":
        return ("unanswered", deed_of(parts[0][0]), parts[1])
    return value


def is_shown_deed(shown):
    """Whether a shown form is that of the tag of a deed, without parts."""
    return is_tuple_of(shown, 2, 2) and shown[1] == () and is_deed_tag(shown[0])
