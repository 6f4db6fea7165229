"""Programs without answerers, in which rows of answers are handed on from function to function, told without checks.

The deeds that are answered are told by an ascending tuple. What answers them where something is worked out, has there
the name Rows: the answer for one deed alone, or a shape of them. New names begin with a capital, so that they are
unlike all names of programs; at last, all are given plain names.
"""

from nearanswer.bindings import plain
from nearanswer.checks import check_bounds
from nearanswer.handing import handed_body
from nearanswer.treeforms import parts_in, trees_in, with_parts
from nearanswer.uses import uses_in

ROWS = ("name", "Rows")
ANSWER_NAMES = ("First", "Second", "Third", "Fourth")


def deeds_answered(tree):
    """The ascending list of all deeds for which some answerer in a tree has a row."""
    found = {}
    for one in trees_in(tree):
        if one[0] == "answer":
            for row in one[3]:
                found[row[0]] = True
    return sorted(found)


def handed_over(program):
    """A program without answerers that shows the same as one whose rows all go on last."""
    if not any([one[0] == "answer" for one in trees_in(program)]):
        return program
    deeds = tuple(deeds_answered(program))
    tree = handed(program, deeds)
    if len(deeds) > 0:
        outer = [("fun", "Value", ("do", deed, ("name", "Value"))) for deed in deeds]
        tree = ("let", "Rows", joined(outer), tree)
    check_bounds(tree)
    return plain(tree)


def joined(answers):
    """What has the name Rows, with these answers."""
    if len(answers) == 1:
        return answers[0]
    return ("shape", "Row", tuple(answers))


def handed(tree, deeds):
    """What becomes of a tree where the rows have their name."""
    word = tree[0]
    if word == "answer":
        return handed_answerer(tree, deeds)
    if word == "do" and tree[1] in deeds:
        return answered_by_rows(tree[1], handed(tree[2], deeds), deeds)
    parts = []
    for part in parts_in(tree):
        parts.append(handed(part, deeds))
    if len(deeds) == 0:
        return with_parts(tree, parts)
    if word == "fun" or word == "rec":
        parts[0] = ("fun", "Rows", parts[0])
    whole = with_parts(tree, parts)
    if word == "call":
        return ("call", whole, ROWS)
    return whole


def answered_by_rows(deed, one, deeds):
    """The call of the answer for a deed."""
    if len(deeds) == 1:
        return ("call", ROWS, one)
    return with_rows([deed], deeds, ("call", ("name", answer_name(deed, deeds)), one))


def answer_name(deed, deeds):
    return ANSWER_NAMES[deeds.index(deed)]


def with_rows(known, deeds, body):
    """A body in which the answers for the deeds that are known have their names."""
    patterns = []
    for deed in deeds:
        if deed in known:
            patterns.append(("bind", answer_name(deed, deeds)))
        else:
            patterns.append(("any",))
    return ("match", ROWS, ((("shapeis", "Row", tuple(patterns)), body),))


def handed_answerer(tree, deeds):
    """A let of the value of the one, in which the answers of the answerer's rows stand among the rows."""
    _, one, pair, rows = tree
    inner = handed(one, deeds)
    if len(rows) > 0:
        inner = ("let", "Rows", grown_rows(rows, deeds), inner)
    return ("let", pair[0], inner, handed(pair[1], deeds))


def grown_rows(rows, deeds):
    """The rows with the answers of an answerer's rows. These answers look for rows outside the answerer themselves."""
    own = {}
    for deed, entry, _, body in rows:
        own[deed] = ("fun", entry, with_one_use(handed(handed_body(body), deeds)))
    left = [deed for deed in deeds if deed not in own]
    answers = []
    for deed in deeds:
        answers.append(own.get(deed, ("name", answer_name(deed, deeds))))
    if len(left) == 0:
        return joined(answers)
    return with_rows(left, deeds, joined(answers))


def with_one_use(body):
    """A body that uses the rows once at most: what is put for them would be there as often as they are used."""
    if len(uses_in(body, "Rows")) < 2:
        return body
    return ("let", "Rows", ROWS, body)
