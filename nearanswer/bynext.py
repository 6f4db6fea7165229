"""Programs led by what comes next."""

from nearanswer.checks import check_program
from nearanswer.leading import (PART_NAMES, answerer_match, check_led_rows, deed_shape, did, done, gone_on, used,
                                with_led_names)
from nearanswer.treeforms import parts_in, with_parts


def by_next(program):
    """The program to which a program is led by what comes next, with plain names."""
    check_program(program)
    check_led_rows(program)
    return with_led_names(finished(led_next(program)))


def finished(tree):
    """What has been led, with nothing that comes next but its value, done."""
    return ("call", tree, ("fun", "Value", done(used("Value"))))


def led_next(tree):
    """What a tree is led to within a program: a function of what comes next."""
    return ("fun", "Next", led_body(tree))


def going_on(tree):
    """What a tree is led to, with what comes next."""
    return ("call", ("fun", "Next", led_body(tree)), used("Next"))


def led_body(tree):
    """The body of the function to which a tree is led."""
    word = tree[0]
    if word == "fun":
        return ("call", used("Next"), ("fun", tree[1], led_next(tree[2])))
    if word == "let":
        return ahead(tree[2], tree[1], going_on(tree[3]))
    if word == "rec":
        return (word, tree[1], tree[2], led_next(tree[3]), going_on(tree[4]))
    if word == "match":
        rows = []
        for pattern, body in tree[2]:
            rows.append((pattern, going_on(body)))
        return ahead(tree[1], "One", (word, used("One"), tuple(rows)))
    if word == "do":
        return ahead(tree[2], "One", did(deed_shape(tree[1]), used("One"), used("Next")))
    if word == "answer":
        return led_answerer(tree)
    return led_parts(tree)


def ahead(tree, entry, body):
    """What becomes of a tree that is worked out ahead of a body, in which its value has the name of the entry."""
    return ("call", ("fun", "Next", led_body(tree)), ("fun", entry, body))


def led_parts(tree):
    """The body of what a tree is led to whose parts are all worked out, as are those of an op; an atom has none."""
    parts = parts_in(tree)
    names = PART_NAMES[:len(parts)]
    whole = with_parts(tree, [used(name) for name in names])
    if tree[0] == "call":
        whole = ("call", whole, used("Next"))
    else:
        whole = ("call", used("Next"), whole)
    for name, part in list(zip(names, parts))[::-1]:
        whole = ahead(part, name, whole)
    return whole


def led_answerer(tree):
    """The body of what an answerer is led to; End is what comes next behind it."""
    rows = []
    for row in tree[3]:
        rows.append(row[:3] + (with_end(row[3]),))
    pair = (tree[2][0], with_end(tree[2][1]))
    rest = ("fun", "Again", ("call", gone_on()[2], used("End")))
    made = ("fun", "End", answerer_match(pair, rows, did(used("Deed"), used("Value"), rest)))
    one = finished(led_next(tree[1]))
    return ("rec", "Go", "Plan", made, ("call", ("call", used("Go"), one), used("Next")))


def with_end(tree):
    return ("call", ("fun", "Next", led_body(tree)), used("End"))
